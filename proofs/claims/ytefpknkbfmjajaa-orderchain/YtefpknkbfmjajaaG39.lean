/- LawKm32, LawC. -/
import Derived.Test.YtefpknkbfmjajaaG36
import Derived.LoopN
namespace Go.Proofs.Ytefpknkbfmjajaa
open Go.RowKit
open Go.Proofs.Ytefpknkbfmjajaa.W

set_option maxRecDepth 100000 in
set_option maxHeartbeats 2000000 in
theorem keeps_l32 {w x y a b : Int} (W : World) (g1 : (w != 32) = false) (HW : Hid (∀ W, Calls Try.prog 7 #[] W fun r W' => r = .returned (.bool true) ∧ Below W.heap.size W W')) (HM : Hid (∀ W, Calls Try.prog 16 #[.int .i64 w, .int .u64 x, .int .u64 y] W fun r W' => r = .returned (.int .u64 a) ∧ Below W.heap.size W W')) (HX : Hid (∀ W, Calls Try.prog 17 #[.int .i64 w, .int .u64 x, .int .u64 y] W fun r W' => r = .returned (.int .u64 b) ∧ Below W.heap.size W W')) (HM2 : Hid (∀ W, Calls Try.prog 16 #[.int .i64 w, .int .u64 y, .int .u64 x] W fun r W' => r = .returned (.int .u64 a) ∧ Below W.heap.size W W')) (HX2 : Hid (∀ W, Calls Try.prog 17 #[.int .i64 w, .int .u64 y, .int .u64 x] W fun r W' => r = .returned (.int .u64 b) ∧ Below W.heap.size W W')) (HL : Hid (∀ W, Calls Try.prog 10 #[.int .i64 w, .int .u64 x, .int .u64 y] W fun r W' => r = .returned (.bool true) ∧ Below W.heap.size W W')) (HE : Hid (∀ W, Calls Try.prog 8 #[.int .i64 w, .int .u64 x, .int .u64 y] W fun r W' => r = .returned (.bool false) ∧ Below W.heap.size W W')) (HG : Hid (∀ W, Calls Try.prog 11 #[.int .i64 w, .int .u64 x, .int .u64 y] W fun r W' => r = .returned (.bool false) ∧ Below W.heap.size W W')) (HI1 : Hid (∀ W, Calls Try.prog 21 #[.int .i64 w, .int .u64 x] W fun r W' => r = .returned (.bool false) ∧ Below W.heap.size W W')) (HI2 : Hid (∀ W, Calls Try.prog 21 #[.int .i64 w, .int .u64 y] W fun r W' => r = .returned (.bool false) ∧ Below W.heap.size W W')) (HC1 : Hid (∀ W, Calls Try.prog 23 #[.int .i64 w, .int .u64 x] W fun r W' => r = .returned (.int .u64 a) ∧ Below W.heap.size W W')) (HC2 : Hid (∀ W, Calls Try.prog 23 #[.int .i64 w, .int .u64 y] W fun r W' => r = .returned (.int .u64 b) ∧ Below W.heap.size W W')) (HLE : Hid (∀ W, Calls Try.prog 12 #[.int .i64 w, .int .u64 a, .int .u64 b] W fun r W' => r = .returned (.bool true) ∧ Below W.heap.size W W'))  :
    Calls Try.prog 5 #[.int .i64 w, .int .u64 x, .int .u64 y] W fun r W' => r = .returned (.bool true) ∧ Below W.heap.size W W' := by
  go_enter Try.func5, Try.ntmps5
  go_wp2_with fail
  refine (unhide HW _).mono ?_
  rintro _ w1 ⟨rfl, hb⟩
  have HB := hide hb
  clear hb
  go_wp2_with fail
  refine (unhide HM _).mono ?_
  rintro _ w2 ⟨rfl, hb⟩
  have HB := hide (bthen (unhide HB) hb)
  clear hb
  go_wp2_with fail
  refine (unhide HX _).mono ?_
  rintro _ w3 ⟨rfl, hb⟩
  have HB := hide (bthen (unhide HB) hb)
  clear hb
  go_wp2_with fail
  refine (unhide HM2 _).mono ?_
  rintro _ w4 ⟨rfl, hb⟩
  have HB := hide (bthen (unhide HB) hb)
  clear hb
  go_wp2_with fail
  refine (unhide HX2 _).mono ?_
  rintro _ w5 ⟨rfl, hb⟩
  have HB := hide (bthen (unhide HB) hb)
  clear hb
  go_wp2_with fail
  refine (unhide HL _).mono ?_
  rintro _ w6 ⟨rfl, hb⟩
  have HB := hide (bthen (unhide HB) hb)
  clear hb
  go_wp2_with fail
  refine (unhide HE _).mono ?_
  rintro _ w7 ⟨rfl, hb⟩
  have HB := hide (bthen (unhide HB) hb)
  clear hb
  go_wp2_with fail
  refine (unhide HG _).mono ?_
  rintro _ w8 ⟨rfl, hb⟩
  have HB := hide (bthen (unhide HB) hb)
  clear hb
  go_wp2_with fail
  refine wp_loop_rounds 4 ?_
  rw [rounds_succ]
  go_wp2_with fail
  rw [rounds_succ]
  go_wp2_with fail
  rw [rounds_succ]
  go_wp2_with fail
  rw [rounds_succ]
  go_wp2_with fail
  refine (unhide HI1 _).mono ?_
  rintro _ w9 ⟨rfl, hb⟩
  have HB := hide (bthen (balloc (unhide HB) _) hb)
  clear hb
  go_wp2_with fail
  refine (unhide HI2 _).mono ?_
  rintro _ w10 ⟨rfl, hb⟩
  have HB := hide (bthen (unhide HB) hb)
  clear hb
  go_wp2_with fail
  refine (unhide HC1 _).mono ?_
  rintro _ w11 ⟨rfl, hb⟩
  have HB := hide (bthen (unhide HB) hb)
  clear hb
  go_wp2_with fail
  refine (unhide HC2 _).mono ?_
  rintro _ w12 ⟨rfl, hb⟩
  have HB := hide (bthen (unhide HB) hb)
  clear hb
  go_wp2_with fail
  refine (unhide HLE _).mono ?_
  rintro _ w13 ⟨rfl, hb⟩
  have HB := hide (bthen (unhide HB) hb)
  clear hb
  go_wp2_with fail
  go_ret
  exact ⟨by simp, unhide HB⟩
set_option maxRecDepth 100000 in
set_option maxHeartbeats 2000000 in
theorem keeps_e32 {w x y a b : Int} (W : World) (g1 : (w != 32) = false) (HW : Hid (∀ W, Calls Try.prog 7 #[] W fun r W' => r = .returned (.bool true) ∧ Below W.heap.size W W')) (HM : Hid (∀ W, Calls Try.prog 16 #[.int .i64 w, .int .u64 x, .int .u64 y] W fun r W' => r = .returned (.int .u64 a) ∧ Below W.heap.size W W')) (HX : Hid (∀ W, Calls Try.prog 17 #[.int .i64 w, .int .u64 x, .int .u64 y] W fun r W' => r = .returned (.int .u64 b) ∧ Below W.heap.size W W')) (HM2 : Hid (∀ W, Calls Try.prog 16 #[.int .i64 w, .int .u64 y, .int .u64 x] W fun r W' => r = .returned (.int .u64 a) ∧ Below W.heap.size W W')) (HX2 : Hid (∀ W, Calls Try.prog 17 #[.int .i64 w, .int .u64 y, .int .u64 x] W fun r W' => r = .returned (.int .u64 b) ∧ Below W.heap.size W W')) (HL : Hid (∀ W, Calls Try.prog 10 #[.int .i64 w, .int .u64 x, .int .u64 y] W fun r W' => r = .returned (.bool false) ∧ Below W.heap.size W W')) (HE : Hid (∀ W, Calls Try.prog 8 #[.int .i64 w, .int .u64 x, .int .u64 y] W fun r W' => r = .returned (.bool true) ∧ Below W.heap.size W W')) (HG : Hid (∀ W, Calls Try.prog 11 #[.int .i64 w, .int .u64 x, .int .u64 y] W fun r W' => r = .returned (.bool false) ∧ Below W.heap.size W W')) (HI1 : Hid (∀ W, Calls Try.prog 21 #[.int .i64 w, .int .u64 x] W fun r W' => r = .returned (.bool false) ∧ Below W.heap.size W W')) (HI2 : Hid (∀ W, Calls Try.prog 21 #[.int .i64 w, .int .u64 y] W fun r W' => r = .returned (.bool false) ∧ Below W.heap.size W W')) (HC1 : Hid (∀ W, Calls Try.prog 23 #[.int .i64 w, .int .u64 x] W fun r W' => r = .returned (.int .u64 a) ∧ Below W.heap.size W W')) (HC2 : Hid (∀ W, Calls Try.prog 23 #[.int .i64 w, .int .u64 y] W fun r W' => r = .returned (.int .u64 b) ∧ Below W.heap.size W W')) (HLE : Hid (∀ W, Calls Try.prog 12 #[.int .i64 w, .int .u64 a, .int .u64 b] W fun r W' => r = .returned (.bool true) ∧ Below W.heap.size W W'))  :
    Calls Try.prog 5 #[.int .i64 w, .int .u64 x, .int .u64 y] W fun r W' => r = .returned (.bool true) ∧ Below W.heap.size W W' := by
  go_enter Try.func5, Try.ntmps5
  go_wp2_with fail
  refine (unhide HW _).mono ?_
  rintro _ w1 ⟨rfl, hb⟩
  have HB := hide hb
  clear hb
  go_wp2_with fail
  refine (unhide HM _).mono ?_
  rintro _ w2 ⟨rfl, hb⟩
  have HB := hide (bthen (unhide HB) hb)
  clear hb
  go_wp2_with fail
  refine (unhide HX _).mono ?_
  rintro _ w3 ⟨rfl, hb⟩
  have HB := hide (bthen (unhide HB) hb)
  clear hb
  go_wp2_with fail
  refine (unhide HM2 _).mono ?_
  rintro _ w4 ⟨rfl, hb⟩
  have HB := hide (bthen (unhide HB) hb)
  clear hb
  go_wp2_with fail
  refine (unhide HX2 _).mono ?_
  rintro _ w5 ⟨rfl, hb⟩
  have HB := hide (bthen (unhide HB) hb)
  clear hb
  go_wp2_with fail
  refine (unhide HL _).mono ?_
  rintro _ w6 ⟨rfl, hb⟩
  have HB := hide (bthen (unhide HB) hb)
  clear hb
  go_wp2_with fail
  refine (unhide HE _).mono ?_
  rintro _ w7 ⟨rfl, hb⟩
  have HB := hide (bthen (unhide HB) hb)
  clear hb
  go_wp2_with fail
  refine (unhide HG _).mono ?_
  rintro _ w8 ⟨rfl, hb⟩
  have HB := hide (bthen (unhide HB) hb)
  clear hb
  go_wp2_with fail
  refine wp_loop_rounds 4 ?_
  rw [rounds_succ]
  go_wp2_with fail
  rw [rounds_succ]
  go_wp2_with fail
  rw [rounds_succ]
  go_wp2_with fail
  rw [rounds_succ]
  go_wp2_with fail
  refine (unhide HI1 _).mono ?_
  rintro _ w9 ⟨rfl, hb⟩
  have HB := hide (bthen (balloc (unhide HB) _) hb)
  clear hb
  go_wp2_with fail
  refine (unhide HI2 _).mono ?_
  rintro _ w10 ⟨rfl, hb⟩
  have HB := hide (bthen (unhide HB) hb)
  clear hb
  go_wp2_with fail
  refine (unhide HC1 _).mono ?_
  rintro _ w11 ⟨rfl, hb⟩
  have HB := hide (bthen (unhide HB) hb)
  clear hb
  go_wp2_with fail
  refine (unhide HC2 _).mono ?_
  rintro _ w12 ⟨rfl, hb⟩
  have HB := hide (bthen (unhide HB) hb)
  clear hb
  go_wp2_with fail
  refine (unhide HLE _).mono ?_
  rintro _ w13 ⟨rfl, hb⟩
  have HB := hide (bthen (unhide HB) hb)
  clear hb
  go_wp2_with fail
  go_ret
  exact ⟨by simp, unhide HB⟩
set_option maxRecDepth 100000 in
set_option maxHeartbeats 2000000 in
theorem keeps_f32 {w x y a b : Int} (W : World) (g1 : (w != 32) = false) (HW : Hid (∀ W, Calls Try.prog 7 #[] W fun r W' => r = .returned (.bool true) ∧ Below W.heap.size W W')) (HM : Hid (∀ W, Calls Try.prog 16 #[.int .i64 w, .int .u64 x, .int .u64 y] W fun r W' => r = .returned (.int .u64 b) ∧ Below W.heap.size W W')) (HX : Hid (∀ W, Calls Try.prog 17 #[.int .i64 w, .int .u64 x, .int .u64 y] W fun r W' => r = .returned (.int .u64 a) ∧ Below W.heap.size W W')) (HM2 : Hid (∀ W, Calls Try.prog 16 #[.int .i64 w, .int .u64 y, .int .u64 x] W fun r W' => r = .returned (.int .u64 b) ∧ Below W.heap.size W W')) (HX2 : Hid (∀ W, Calls Try.prog 17 #[.int .i64 w, .int .u64 y, .int .u64 x] W fun r W' => r = .returned (.int .u64 a) ∧ Below W.heap.size W W')) (HL : Hid (∀ W, Calls Try.prog 10 #[.int .i64 w, .int .u64 x, .int .u64 y] W fun r W' => r = .returned (.bool false) ∧ Below W.heap.size W W')) (HE : Hid (∀ W, Calls Try.prog 8 #[.int .i64 w, .int .u64 x, .int .u64 y] W fun r W' => r = .returned (.bool true) ∧ Below W.heap.size W W')) (HG : Hid (∀ W, Calls Try.prog 11 #[.int .i64 w, .int .u64 x, .int .u64 y] W fun r W' => r = .returned (.bool false) ∧ Below W.heap.size W W')) (HI1 : Hid (∀ W, Calls Try.prog 21 #[.int .i64 w, .int .u64 x] W fun r W' => r = .returned (.bool false) ∧ Below W.heap.size W W')) (HI2 : Hid (∀ W, Calls Try.prog 21 #[.int .i64 w, .int .u64 y] W fun r W' => r = .returned (.bool false) ∧ Below W.heap.size W W')) (HC1 : Hid (∀ W, Calls Try.prog 23 #[.int .i64 w, .int .u64 x] W fun r W' => r = .returned (.int .u64 a) ∧ Below W.heap.size W W')) (HC2 : Hid (∀ W, Calls Try.prog 23 #[.int .i64 w, .int .u64 y] W fun r W' => r = .returned (.int .u64 b) ∧ Below W.heap.size W W')) (HLE : Hid (∀ W, Calls Try.prog 12 #[.int .i64 w, .int .u64 b, .int .u64 a] W fun r W' => r = .returned (.bool true) ∧ Below W.heap.size W W')) (hne : (b == a) = false) :
    Calls Try.prog 5 #[.int .i64 w, .int .u64 x, .int .u64 y] W fun r W' => r = .returned (.bool true) ∧ Below W.heap.size W W' := by
  go_enter Try.func5, Try.ntmps5
  go_wp2_with fail
  refine (unhide HW _).mono ?_
  rintro _ w1 ⟨rfl, hb⟩
  have HB := hide hb
  clear hb
  go_wp2_with fail
  refine (unhide HM _).mono ?_
  rintro _ w2 ⟨rfl, hb⟩
  have HB := hide (bthen (unhide HB) hb)
  clear hb
  go_wp2_with fail
  refine (unhide HX _).mono ?_
  rintro _ w3 ⟨rfl, hb⟩
  have HB := hide (bthen (unhide HB) hb)
  clear hb
  go_wp2_with fail
  refine (unhide HM2 _).mono ?_
  rintro _ w4 ⟨rfl, hb⟩
  have HB := hide (bthen (unhide HB) hb)
  clear hb
  go_wp2_with fail
  refine (unhide HX2 _).mono ?_
  rintro _ w5 ⟨rfl, hb⟩
  have HB := hide (bthen (unhide HB) hb)
  clear hb
  go_wp2_with fail
  refine (unhide HL _).mono ?_
  rintro _ w6 ⟨rfl, hb⟩
  have HB := hide (bthen (unhide HB) hb)
  clear hb
  go_wp2_with fail
  refine (unhide HE _).mono ?_
  rintro _ w7 ⟨rfl, hb⟩
  have HB := hide (bthen (unhide HB) hb)
  clear hb
  go_wp2_with fail
  refine (unhide HG _).mono ?_
  rintro _ w8 ⟨rfl, hb⟩
  have HB := hide (bthen (unhide HB) hb)
  clear hb
  go_wp2_with fail
  refine wp_loop_rounds 4 ?_
  rw [rounds_succ]
  go_wp2_with fail
  rw [rounds_succ]
  go_wp2_with fail
  rw [rounds_succ]
  go_wp2_with fail
  rw [rounds_succ]
  go_wp2_with fail
  refine (unhide HI1 _).mono ?_
  rintro _ w9 ⟨rfl, hb⟩
  have HB := hide (bthen (balloc (unhide HB) _) hb)
  clear hb
  go_wp2_with fail
  refine (unhide HI2 _).mono ?_
  rintro _ w10 ⟨rfl, hb⟩
  have HB := hide (bthen (unhide HB) hb)
  clear hb
  go_wp2_with fail
  refine (unhide HC1 _).mono ?_
  rintro _ w11 ⟨rfl, hb⟩
  have HB := hide (bthen (unhide HB) hb)
  clear hb
  go_wp2_with fail
  refine (unhide HC2 _).mono ?_
  rintro _ w12 ⟨rfl, hb⟩
  have HB := hide (bthen (unhide HB) hb)
  clear hb
  go_wp2_with fail
  refine (unhide HLE _).mono ?_
  rintro _ w13 ⟨rfl, hb⟩
  have HB := hide (bthen (unhide HB) hb)
  clear hb
  go_wp2_with fail
  go_ret
  exact ⟨by simp, unhide HB⟩
set_option maxRecDepth 100000 in
set_option maxHeartbeats 2000000 in
theorem keeps_g32 {w x y a b : Int} (W : World) (g1 : (w != 32) = false) (HW : Hid (∀ W, Calls Try.prog 7 #[] W fun r W' => r = .returned (.bool true) ∧ Below W.heap.size W W')) (HM : Hid (∀ W, Calls Try.prog 16 #[.int .i64 w, .int .u64 x, .int .u64 y] W fun r W' => r = .returned (.int .u64 b) ∧ Below W.heap.size W W')) (HX : Hid (∀ W, Calls Try.prog 17 #[.int .i64 w, .int .u64 x, .int .u64 y] W fun r W' => r = .returned (.int .u64 a) ∧ Below W.heap.size W W')) (HM2 : Hid (∀ W, Calls Try.prog 16 #[.int .i64 w, .int .u64 y, .int .u64 x] W fun r W' => r = .returned (.int .u64 b) ∧ Below W.heap.size W W')) (HX2 : Hid (∀ W, Calls Try.prog 17 #[.int .i64 w, .int .u64 y, .int .u64 x] W fun r W' => r = .returned (.int .u64 a) ∧ Below W.heap.size W W')) (HL : Hid (∀ W, Calls Try.prog 10 #[.int .i64 w, .int .u64 x, .int .u64 y] W fun r W' => r = .returned (.bool false) ∧ Below W.heap.size W W')) (HE : Hid (∀ W, Calls Try.prog 8 #[.int .i64 w, .int .u64 x, .int .u64 y] W fun r W' => r = .returned (.bool false) ∧ Below W.heap.size W W')) (HG : Hid (∀ W, Calls Try.prog 11 #[.int .i64 w, .int .u64 x, .int .u64 y] W fun r W' => r = .returned (.bool true) ∧ Below W.heap.size W W')) (HI1 : Hid (∀ W, Calls Try.prog 21 #[.int .i64 w, .int .u64 x] W fun r W' => r = .returned (.bool false) ∧ Below W.heap.size W W')) (HI2 : Hid (∀ W, Calls Try.prog 21 #[.int .i64 w, .int .u64 y] W fun r W' => r = .returned (.bool false) ∧ Below W.heap.size W W')) (HC1 : Hid (∀ W, Calls Try.prog 23 #[.int .i64 w, .int .u64 x] W fun r W' => r = .returned (.int .u64 a) ∧ Below W.heap.size W W')) (HC2 : Hid (∀ W, Calls Try.prog 23 #[.int .i64 w, .int .u64 y] W fun r W' => r = .returned (.int .u64 b) ∧ Below W.heap.size W W')) (HLE : Hid (∀ W, Calls Try.prog 12 #[.int .i64 w, .int .u64 b, .int .u64 a] W fun r W' => r = .returned (.bool true) ∧ Below W.heap.size W W')) (hne : (b == a) = false) :
    Calls Try.prog 5 #[.int .i64 w, .int .u64 x, .int .u64 y] W fun r W' => r = .returned (.bool true) ∧ Below W.heap.size W W' := by
  go_enter Try.func5, Try.ntmps5
  go_wp2_with fail
  refine (unhide HW _).mono ?_
  rintro _ w1 ⟨rfl, hb⟩
  have HB := hide hb
  clear hb
  go_wp2_with fail
  refine (unhide HM _).mono ?_
  rintro _ w2 ⟨rfl, hb⟩
  have HB := hide (bthen (unhide HB) hb)
  clear hb
  go_wp2_with fail
  refine (unhide HX _).mono ?_
  rintro _ w3 ⟨rfl, hb⟩
  have HB := hide (bthen (unhide HB) hb)
  clear hb
  go_wp2_with fail
  refine (unhide HM2 _).mono ?_
  rintro _ w4 ⟨rfl, hb⟩
  have HB := hide (bthen (unhide HB) hb)
  clear hb
  go_wp2_with fail
  refine (unhide HX2 _).mono ?_
  rintro _ w5 ⟨rfl, hb⟩
  have HB := hide (bthen (unhide HB) hb)
  clear hb
  go_wp2_with fail
  refine (unhide HL _).mono ?_
  rintro _ w6 ⟨rfl, hb⟩
  have HB := hide (bthen (unhide HB) hb)
  clear hb
  go_wp2_with fail
  refine (unhide HE _).mono ?_
  rintro _ w7 ⟨rfl, hb⟩
  have HB := hide (bthen (unhide HB) hb)
  clear hb
  go_wp2_with fail
  refine (unhide HG _).mono ?_
  rintro _ w8 ⟨rfl, hb⟩
  have HB := hide (bthen (unhide HB) hb)
  clear hb
  go_wp2_with fail
  refine wp_loop_rounds 4 ?_
  rw [rounds_succ]
  go_wp2_with fail
  rw [rounds_succ]
  go_wp2_with fail
  rw [rounds_succ]
  go_wp2_with fail
  rw [rounds_succ]
  go_wp2_with fail
  refine (unhide HI1 _).mono ?_
  rintro _ w9 ⟨rfl, hb⟩
  have HB := hide (bthen (balloc (unhide HB) _) hb)
  clear hb
  go_wp2_with fail
  refine (unhide HI2 _).mono ?_
  rintro _ w10 ⟨rfl, hb⟩
  have HB := hide (bthen (unhide HB) hb)
  clear hb
  go_wp2_with fail
  refine (unhide HC1 _).mono ?_
  rintro _ w11 ⟨rfl, hb⟩
  have HB := hide (bthen (unhide HB) hb)
  clear hb
  go_wp2_with fail
  refine (unhide HC2 _).mono ?_
  rintro _ w12 ⟨rfl, hb⟩
  have HB := hide (bthen (unhide HB) hb)
  clear hb
  go_wp2_with fail
  refine (unhide HLE _).mono ?_
  rintro _ w13 ⟨rfl, hb⟩
  have HB := hide (bthen (unhide HB) hb)
  clear hb
  go_wp2_with fail
  go_ret
  exact ⟨by simp, unhide HB⟩

end Go.Proofs.Ytefpknkbfmjajaa
namespace Go.Proofs.Ytefpknkbfmjajaa
open Go.RowKit
open Go.Proofs.Ytefpknkbfmjajaa.W

def At3 (b : Nat) (x y z : Value) (w : World) : Prop := w.cell? ⟨b, 0, none⟩ = some x ∧ w.cell? ⟨b, 1, none⟩ = some y ∧ w.cell? ⟨b, 2, none⟩ = some z
theorem At3.below {b : Nat} {x y z : Value} {w w' : World} (h : At3 b x y z w) (hb : Below w.heap.size w w') : At3 b x y z w' :=
  have hz := lt_of_cell h.1
  ⟨keep1 hb hz h.1, keep1 hb hz h.2.1, keep1 hb hz h.2.2⟩
theorem at3_new (w : World) (x y z : Value) (t : TypeId) : At3 w.heap.size x y z (w.alloc (.cells #[x, y, z] t)) := by unfold At3; simp [go_sem]

set_option maxRecDepth 100000 in
set_option maxHeartbeats 2000000 in
theorem chain_no {w x y z : Int} (W : World) (HW : Hid (∀ W, Calls Try.prog 7 #[] W fun r W' => r = .returned (.bool true) ∧ Below W.heap.size W W')) (HK : Hid (∀ W, Calls Try.prog 14 #[.int .i64 w] W fun r W' => r = .returned (.bool false) ∧ Below W.heap.size W W')) :
    Calls Try.prog 6 #[.int .i64 w, .agg #[.int .u64 x, .int .u64 y, .int .u64 z]] W fun r W' => r = .returned (.bool true) ∧ Below W.heap.size W W' := by
  go_enter Try.func6, Try.ntmps6
  go_wp2_with fail
  have HB := hide (below1 W (.cells #[.int .u64 x, .int .u64 y, .int .u64 z] 39))
  have HA := hide (at3_new W (.int .u64 x) (.int .u64 y) (.int .u64 z) 39)
  refine (unhide HW _).mono ?_
  rintro _ w1 ⟨rfl, hb⟩
  have HB := hide (bthen (unhide HB) hb)
  have HA := hide ((unhide HA).below hb)
  clear hb
  obtain ⟨c0, c1, c2⟩ := unhide HA
  go_wp2_with fail
  clear c0 c1 c2
  refine (unhide HK _).mono ?_
  rintro _ w2 ⟨rfl, hb⟩
  have HB := hide (bthen (unhide HB) hb)
  have HA := hide ((unhide HA).below hb)
  clear hb
  obtain ⟨c0, c1, c2⟩ := unhide HA
  go_wp2_with fail
  clear c0 c1 c2
  go_ret
  exact ⟨rfl, unhide HB⟩

end Go.Proofs.Ytefpknkbfmjajaa
