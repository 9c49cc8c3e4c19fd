/- The statements' own test of the chapter's examples, and the walks of the statement SumAdds. -/
import Derived.Test.YticbhdgamblmbaaSumC
namespace Go.Proofs.Yticbhdgamblmbaa
open Go.RowKit

set_option maxRecDepth 100000 in
set_option maxHeartbeats 2000000 in
theorem awake_l (W : World) (HA : Hid (∀ W, Calls Try.prog 9 #[.int .i64 64, .int .u64 4607182418800017408, .int .u64 4368491638549381120] W fun r W' => r = .returned (.int .u64 4607182418800017408) ∧ Below W.heap.size W W')) (HS : Hid (∀ W, Calls Try.prog 10 #[.int .i64 64, .int .u64 4607182418800017408, .int .u64 4607182418800017408] W fun r W' => r = .returned (.int .u64 0) ∧ Below W.heap.size W W')) (HB' : Hid (∀ W, Calls Try.prog 9 #[.int .i64 32, .int .u64 1065353216, .int .u64 1065353216] W fun r W' => r = .returned (.int .u64 1073741824) ∧ Below W.heap.size W W')) :
    Calls Try.prog 8 #[] W fun r W' => r = .returned (.bool true) ∧ Below W.heap.size W W' := by
  go_enter Try.func8, Try.ntmps8
  go_wp2_with fail
  refine (unhide HA _).mono ?_
  rintro _ w1 ⟨rfl, hb⟩
  have HB := hide hb
  clear hb
  go_wp2_with fail
  refine (unhide HS _).mono ?_
  rintro _ w2 ⟨rfl, hb⟩
  have HB := hide (bthen (unhide HB) hb)
  clear hb
  go_wp2_with fail
  refine (unhide HB' _).mono ?_
  rintro _ w3 ⟨rfl, hb⟩
  have HB := hide (bthen (unhide HB) hb)
  clear hb
  go_wp2_with fail
  go_ret
  exact ⟨rfl, unhide HB⟩
theorem kd_32s : Kd 32 8 23 8388608 256 127 := Or.inl ⟨rfl, rfl, rfl, rfl, rfl, rfl⟩
theorem kd_64s : Kd 64 11 52 4503599627370496 2048 1023 := Or.inr ⟨rfl, rfl, rfl, rfl, rfl, rfl⟩
theorem sum_a : addB 52 4503599627370496 2048 1023 4607182418800017408 4368491638549381120 = 4607182418800017408 := by decide +kernel
theorem sum_b : subB 52 4503599627370496 2048 1023 4607182418800017408 4607182418800017408 = 0 := by decide +kernel
theorem sum_c : addB 23 8388608 256 127 1065353216 1065353216 = 1073741824 := by decide +kernel
theorem awake_any (W : World) : Calls Try.prog 8 #[] W fun r W' => r = .returned (.bool true) ∧ Below W.heap.size W W' := by
  have h1 := fun W => sumAdd_any (x := 4607182418800017408) (y := 4368491638549381120) kd_64s W (by omega) (by omega) (by omega) (by omega)
  have h2 := fun W => sumSub_any (x := 4607182418800017408) (y := 4607182418800017408) kd_64s W (by omega) (by omega) (by omega) (by omega)
  have h3 := fun W => sumAdd_any (x := 1065353216) (y := 1065353216) kd_32s W (by omega) (by omega) (by omega) (by omega)
  rw [sum_a] at h1
  rw [sum_b] at h2
  rw [sum_c] at h3
  exact awake_l W (hide h1) (hide h2) (hide h3)

set_option maxRecDepth 100000 in
set_option maxHeartbeats 2000000 in
theorem adds_t {w x y U V : Int} (W : World) (HW : Hid (∀ W, Calls Try.prog 8 #[] W fun r W' => r = .returned (.bool true) ∧ Below W.heap.size W W')) (HA : Hid (∀ W, Calls Try.prog 9 #[.int .i64 w, .int .u64 x, .int .u64 y] W fun r W' => r = .returned (.int .u64 U) ∧ Below W.heap.size W W')) (HS : Hid (∀ W, Calls Try.prog 10 #[.int .i64 w, .int .u64 x, .int .u64 y] W fun r W' => r = .returned (.int .u64 V) ∧ Below W.heap.size W W')) (HK : Hid (∀ W, Calls Try.prog 11 #[.int .i64 w] W fun r W' => r = .returned (.bool true) ∧ Below W.heap.size W W')) (HA2 : Hid (∀ W, Calls Try.prog 12 #[.int .i64 w, .int .u64 x, .int .u64 y] W fun r W' => r = .returned (.int .u64 U) ∧ Below W.heap.size W W')) (HS2 : Hid (∀ W, Calls Try.prog 13 #[.int .i64 w, .int .u64 x, .int .u64 y] W fun r W' => r = .returned (.int .u64 V) ∧ Below W.heap.size W W')) :
    Calls Try.prog 3 #[.int .i64 w, .int .u64 x, .int .u64 y] W fun r W' => r = .returned (.bool true) ∧ Below W.heap.size W W' := by
  go_enter Try.func3, Try.ntmps3
  go_wp2_with fail
  refine (unhide HW _).mono ?_
  rintro _ w1 ⟨rfl, hb⟩
  have HB := hide hb
  clear hb
  go_wp2_with fail
  refine (unhide HA _).mono ?_
  rintro _ w2 ⟨rfl, hb⟩
  have HB := hide (bthen (unhide HB) hb)
  clear hb
  go_wp2_with fail
  refine (unhide HS _).mono ?_
  rintro _ w3 ⟨rfl, hb⟩
  have HB := hide (bthen (unhide HB) hb)
  clear hb
  go_wp2_with fail
  refine (unhide HK _).mono ?_
  rintro _ w4 ⟨rfl, hb⟩
  have HB := hide (bthen (unhide HB) hb)
  clear hb
  go_wp2_with fail
  refine (unhide HA2 _).mono ?_
  rintro _ w5 ⟨rfl, hb⟩
  have HB := hide (bthen (unhide HB) hb)
  clear hb
  go_wp2_with fail
  refine (unhide HS2 _).mono ?_
  rintro _ w6 ⟨rfl, hb⟩
  have HB := hide (bthen (unhide HB) hb)
  clear hb
  go_wp2_with fail
  go_ret
  exact ⟨by simp, unhide HB⟩
set_option maxRecDepth 100000 in
set_option maxHeartbeats 2000000 in
theorem adds_f {w x y : Int} (W : World) (HW : Hid (∀ W, Calls Try.prog 8 #[] W fun r W' => r = .returned (.bool true) ∧ Below W.heap.size W W')) (HA : Hid (∀ W, Calls Try.prog 9 #[.int .i64 w, .int .u64 x, .int .u64 y] W fun r W' => r = .returned (.int .u64 0) ∧ Below W.heap.size W W')) (HS : Hid (∀ W, Calls Try.prog 10 #[.int .i64 w, .int .u64 x, .int .u64 y] W fun r W' => r = .returned (.int .u64 0) ∧ Below W.heap.size W W')) (HK : Hid (∀ W, Calls Try.prog 11 #[.int .i64 w] W fun r W' => r = .returned (.bool false) ∧ Below W.heap.size W W')) :
    Calls Try.prog 3 #[.int .i64 w, .int .u64 x, .int .u64 y] W fun r W' => r = .returned (.bool true) ∧ Below W.heap.size W W' := by
  go_enter Try.func3, Try.ntmps3
  go_wp2_with fail
  refine (unhide HW _).mono ?_
  rintro _ w1 ⟨rfl, hb⟩
  have HB := hide hb
  clear hb
  go_wp2_with fail
  refine (unhide HA _).mono ?_
  rintro _ w2 ⟨rfl, hb⟩
  have HB := hide (bthen (unhide HB) hb)
  clear hb
  go_wp2_with fail
  refine (unhide HS _).mono ?_
  rintro _ w3 ⟨rfl, hb⟩
  have HB := hide (bthen (unhide HB) hb)
  clear hb
  go_wp2_with fail
  refine (unhide HK _).mono ?_
  rintro _ w4 ⟨rfl, hb⟩
  have HB := hide (bthen (unhide HB) hb)
  clear hb
  go_wp2_with fail
  go_ret
  exact ⟨rfl, unhide HB⟩

end Go.Proofs.Yticbhdgamblmbaa
