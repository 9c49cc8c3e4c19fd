/- LawKf64. -/
import Derived.Test.YtepdmpcgkecjiaaG41
namespace Go.Proofs.Ytepdmpcgkecjiaa
open Go.RowKit
open Go.Proofs.Ytepdmpcgkecjiaa.W

set_option maxRecDepth 100000 in
set_option maxHeartbeats 2000000 in
theorem keeps_t164 {w x K1 X1 S1 V1 V2 : Int} (W : World) (g1 : (w != 32) = true) (g2 : (w != 64) = false) (HW : Hid (∀ W, Calls Try.prog 6 #[] W fun r W' => r = .returned (.bool true) ∧ Below W.heap.size W W')) (HC1 : Hid (∀ W, Calls Try.prog 7 #[.int .i64 w, .int .u64 x] W fun r W' => r = .returned (.int .u64 V1) ∧ Below W.heap.size W W')) (HC2 : Hid (∀ W, Calls Try.prog 8 #[.int .i64 w, .int .u64 x] W fun r W' => r = .returned (.int .u64 V2) ∧ Below W.heap.size W W')) (HC3 : Hid (∀ W, Calls Try.prog 9 #[.int .i64 w, .int .u64 x] W fun r W' => r = .returned (.int .u64 V1) ∧ Below W.heap.size W W')) (HC4 : Hid (∀ W, Calls Try.prog 10 #[.int .i64 w, .int .u64 x] W fun r W' => r = .returned (.int .u64 V1) ∧ Below W.heap.size W W')) (HO : Hid (∀ W, Calls Try.prog 16 #[.int .i64 w, .int .u64 x] W fun r W' => r = .returned (.agg #[.bool true, .int .i64 K1, .int .i64 X1, .int .u64 S1]) ∧ Below W.heap.size W W')) (k3 : (K1 == 3) = false) (HI : Hid (∀ W, Calls Try.prog 13 #[.int .i64 w, .int .u64 x] W fun r W' => r = .returned (.bool false) ∧ Below W.heap.size W W')) (k2 : (K1 == 2) = false) (HL1 : Hid (∀ W, Calls Try.prog 19 #[.int .i64 w, .int .u64 V2, .int .u64 x] W fun r W' => r = .returned (.bool true) ∧ Below W.heap.size W W')) (HL2 : Hid (∀ W, Calls Try.prog 19 #[.int .i64 w, .int .u64 x, .int .u64 V1] W fun r W' => r = .returned (.bool true) ∧ Below W.heap.size W W')) (HI1 : Hid (∀ W, Calls Try.prog 13 #[.int .i64 w, .int .u64 V1] W fun r W' => r = .returned (.bool true) ∧ Below W.heap.size W W')) (HI2 : Hid (∀ W, Calls Try.prog 13 #[.int .i64 w, .int .u64 V2] W fun r W' => r = .returned (.bool true) ∧ Below W.heap.size W W')) :
    Calls Try.prog 4 #[.int .i64 w, .int .u64 x] W fun r W' => r = .returned (.bool true) ∧ Below W.heap.size W W' := by
  go_enter Try.func4, Try.ntmps4
  go_wp2_with fail
  refine (unhide HW _).mono ?_
  rintro _ w1 ⟨rfl, hb⟩
  have HB := hide hb
  clear hb
  go_wp2_with fail
  refine (unhide HC1 _).mono ?_
  rintro _ w2 ⟨rfl, hb⟩
  have HB := hide (bthen (unhide HB) hb)
  clear hb
  go_wp2_with fail
  refine (unhide HC2 _).mono ?_
  rintro _ w3 ⟨rfl, hb⟩
  have HB := hide (bthen (unhide HB) hb)
  clear hb
  go_wp2_with fail
  refine (unhide HC3 _).mono ?_
  rintro _ w4 ⟨rfl, hb⟩
  have HB := hide (bthen (unhide HB) hb)
  clear hb
  go_wp2_with fail
  refine (unhide HC4 _).mono ?_
  rintro _ w5 ⟨rfl, hb⟩
  have HB := hide (bthen (unhide HB) hb)
  clear hb
  go_wp2_with fail
  refine (unhide HO _).mono ?_
  rintro _ w6 ⟨rfl, hb⟩
  have HB := hide (balloc (bthen (unhide HB) hb) (.cells #[.bool true, .int .i64 K1, .int .i64 X1, .int .u64 S1] 36))
  have HP := hide (at4_new w6 (.bool true) (.int .i64 K1) (.int .i64 X1) (.int .u64 S1) 36)
  clear hb
  obtain ⟨c0, c1, c2, c3⟩ := unhide HP
  go_wp2_with fail
  clear c0 c1 c2 c3
  refine (unhide HI _).mono ?_
  rintro _ w7 ⟨rfl, hb⟩
  have HB := hide (bthen (unhide HB) hb)
  have HP := hide ((unhide HP).below hb)
  clear hb
  obtain ⟨c0, c1, c2, c3⟩ := unhide HP
  go_wp2_with fail
  clear c0 c1 c2 c3
  refine (unhide HL1 _).mono ?_
  rintro _ w8 ⟨rfl, hb⟩
  have HB := hide (bthen (unhide HB) hb)
  have HP := hide ((unhide HP).below hb)
  clear hb
  obtain ⟨c0, c1, c2, c3⟩ := unhide HP
  go_wp2_with fail
  clear c0 c1 c2 c3
  refine (unhide HL2 _).mono ?_
  rintro _ w9 ⟨rfl, hb⟩
  have HB := hide (bthen (unhide HB) hb)
  have HP := hide ((unhide HP).below hb)
  clear hb
  obtain ⟨c0, c1, c2, c3⟩ := unhide HP
  go_wp2_with fail
  clear c0 c1 c2 c3
  refine (unhide HI1 _).mono ?_
  rintro _ w10 ⟨rfl, hb⟩
  have HB := hide (bthen (unhide HB) hb)
  have HP := hide ((unhide HP).below hb)
  clear hb
  obtain ⟨c0, c1, c2, c3⟩ := unhide HP
  go_wp2_with fail
  clear c0 c1 c2 c3
  refine (unhide HI2 _).mono ?_
  rintro _ w11 ⟨rfl, hb⟩
  have HB := hide (bthen (unhide HB) hb)
  have HP := hide ((unhide HP).below hb)
  clear hb
  obtain ⟨c0, c1, c2, c3⟩ := unhide HP
  go_wp2_with fail
  clear c0 c1 c2 c3
  go_ret
  exact ⟨by simp, unhide HB⟩
set_option maxRecDepth 100000 in
set_option maxHeartbeats 2000000 in
theorem keeps_t264 {w x K1 X1 S1 V1 V2 : Int} (W : World) (g1 : (w != 32) = true) (g2 : (w != 64) = false) (HW : Hid (∀ W, Calls Try.prog 6 #[] W fun r W' => r = .returned (.bool true) ∧ Below W.heap.size W W')) (HC1 : Hid (∀ W, Calls Try.prog 7 #[.int .i64 w, .int .u64 x] W fun r W' => r = .returned (.int .u64 V1) ∧ Below W.heap.size W W')) (HC2 : Hid (∀ W, Calls Try.prog 8 #[.int .i64 w, .int .u64 x] W fun r W' => r = .returned (.int .u64 V2) ∧ Below W.heap.size W W')) (HC3 : Hid (∀ W, Calls Try.prog 9 #[.int .i64 w, .int .u64 x] W fun r W' => r = .returned (.int .u64 V1) ∧ Below W.heap.size W W')) (HC4 : Hid (∀ W, Calls Try.prog 10 #[.int .i64 w, .int .u64 x] W fun r W' => r = .returned (.int .u64 V2) ∧ Below W.heap.size W W')) (HO : Hid (∀ W, Calls Try.prog 16 #[.int .i64 w, .int .u64 x] W fun r W' => r = .returned (.agg #[.bool true, .int .i64 K1, .int .i64 X1, .int .u64 S1]) ∧ Below W.heap.size W W')) (k3 : (K1 == 3) = false) (HI : Hid (∀ W, Calls Try.prog 13 #[.int .i64 w, .int .u64 x] W fun r W' => r = .returned (.bool false) ∧ Below W.heap.size W W')) (k2 : (K1 == 2) = false) (HL1 : Hid (∀ W, Calls Try.prog 19 #[.int .i64 w, .int .u64 V2, .int .u64 x] W fun r W' => r = .returned (.bool true) ∧ Below W.heap.size W W')) (HL2 : Hid (∀ W, Calls Try.prog 19 #[.int .i64 w, .int .u64 x, .int .u64 V1] W fun r W' => r = .returned (.bool true) ∧ Below W.heap.size W W')) (HI1 : Hid (∀ W, Calls Try.prog 13 #[.int .i64 w, .int .u64 V1] W fun r W' => r = .returned (.bool true) ∧ Below W.heap.size W W')) (HI2 : Hid (∀ W, Calls Try.prog 13 #[.int .i64 w, .int .u64 V2] W fun r W' => r = .returned (.bool true) ∧ Below W.heap.size W W')) (hne : (V2 != V1) = true) :
    Calls Try.prog 4 #[.int .i64 w, .int .u64 x] W fun r W' => r = .returned (.bool true) ∧ Below W.heap.size W W' := by
  go_enter Try.func4, Try.ntmps4
  go_wp2_with fail
  refine (unhide HW _).mono ?_
  rintro _ w1 ⟨rfl, hb⟩
  have HB := hide hb
  clear hb
  go_wp2_with fail
  refine (unhide HC1 _).mono ?_
  rintro _ w2 ⟨rfl, hb⟩
  have HB := hide (bthen (unhide HB) hb)
  clear hb
  go_wp2_with fail
  refine (unhide HC2 _).mono ?_
  rintro _ w3 ⟨rfl, hb⟩
  have HB := hide (bthen (unhide HB) hb)
  clear hb
  go_wp2_with fail
  refine (unhide HC3 _).mono ?_
  rintro _ w4 ⟨rfl, hb⟩
  have HB := hide (bthen (unhide HB) hb)
  clear hb
  go_wp2_with fail
  refine (unhide HC4 _).mono ?_
  rintro _ w5 ⟨rfl, hb⟩
  have HB := hide (bthen (unhide HB) hb)
  clear hb
  go_wp2_with fail
  refine (unhide HO _).mono ?_
  rintro _ w6 ⟨rfl, hb⟩
  have HB := hide (balloc (bthen (unhide HB) hb) (.cells #[.bool true, .int .i64 K1, .int .i64 X1, .int .u64 S1] 36))
  have HP := hide (at4_new w6 (.bool true) (.int .i64 K1) (.int .i64 X1) (.int .u64 S1) 36)
  clear hb
  obtain ⟨c0, c1, c2, c3⟩ := unhide HP
  go_wp2_with fail
  clear c0 c1 c2 c3
  refine (unhide HI _).mono ?_
  rintro _ w7 ⟨rfl, hb⟩
  have HB := hide (bthen (unhide HB) hb)
  have HP := hide ((unhide HP).below hb)
  clear hb
  obtain ⟨c0, c1, c2, c3⟩ := unhide HP
  go_wp2_with fail
  clear c0 c1 c2 c3
  refine (unhide HL1 _).mono ?_
  rintro _ w8 ⟨rfl, hb⟩
  have HB := hide (bthen (unhide HB) hb)
  have HP := hide ((unhide HP).below hb)
  clear hb
  obtain ⟨c0, c1, c2, c3⟩ := unhide HP
  go_wp2_with fail
  clear c0 c1 c2 c3
  refine (unhide HL2 _).mono ?_
  rintro _ w9 ⟨rfl, hb⟩
  have HB := hide (bthen (unhide HB) hb)
  have HP := hide ((unhide HP).below hb)
  clear hb
  obtain ⟨c0, c1, c2, c3⟩ := unhide HP
  go_wp2_with fail
  clear c0 c1 c2 c3
  refine (unhide HI1 _).mono ?_
  rintro _ w10 ⟨rfl, hb⟩
  have HB := hide (bthen (unhide HB) hb)
  have HP := hide ((unhide HP).below hb)
  clear hb
  obtain ⟨c0, c1, c2, c3⟩ := unhide HP
  go_wp2_with fail
  clear c0 c1 c2 c3
  refine (unhide HI2 _).mono ?_
  rintro _ w11 ⟨rfl, hb⟩
  have HB := hide (bthen (unhide HB) hb)
  have HP := hide ((unhide HP).below hb)
  clear hb
  obtain ⟨c0, c1, c2, c3⟩ := unhide HP
  go_wp2_with fail
  clear c0 c1 c2 c3
  go_ret
  exact ⟨by simp, unhide HB⟩
set_option maxRecDepth 100000 in
set_option maxHeartbeats 2000000 in
theorem keeps_f164 {w x K1 X1 S1 V1 V2 : Int} (W : World) (g1 : (w != 32) = true) (g2 : (w != 64) = false) (HW : Hid (∀ W, Calls Try.prog 6 #[] W fun r W' => r = .returned (.bool true) ∧ Below W.heap.size W W')) (HC1 : Hid (∀ W, Calls Try.prog 7 #[.int .i64 w, .int .u64 x] W fun r W' => r = .returned (.int .u64 V1) ∧ Below W.heap.size W W')) (HC2 : Hid (∀ W, Calls Try.prog 8 #[.int .i64 w, .int .u64 x] W fun r W' => r = .returned (.int .u64 V2) ∧ Below W.heap.size W W')) (HC3 : Hid (∀ W, Calls Try.prog 9 #[.int .i64 w, .int .u64 x] W fun r W' => r = .returned (.int .u64 V2) ∧ Below W.heap.size W W')) (HC4 : Hid (∀ W, Calls Try.prog 10 #[.int .i64 w, .int .u64 x] W fun r W' => r = .returned (.int .u64 V1) ∧ Below W.heap.size W W')) (HO : Hid (∀ W, Calls Try.prog 16 #[.int .i64 w, .int .u64 x] W fun r W' => r = .returned (.agg #[.bool false, .int .i64 K1, .int .i64 X1, .int .u64 S1]) ∧ Below W.heap.size W W')) (k3 : (K1 == 3) = false) (HI : Hid (∀ W, Calls Try.prog 13 #[.int .i64 w, .int .u64 x] W fun r W' => r = .returned (.bool false) ∧ Below W.heap.size W W')) (k2 : (K1 == 2) = false) (HL1 : Hid (∀ W, Calls Try.prog 19 #[.int .i64 w, .int .u64 V2, .int .u64 x] W fun r W' => r = .returned (.bool true) ∧ Below W.heap.size W W')) (HL2 : Hid (∀ W, Calls Try.prog 19 #[.int .i64 w, .int .u64 x, .int .u64 V1] W fun r W' => r = .returned (.bool true) ∧ Below W.heap.size W W')) (HI1 : Hid (∀ W, Calls Try.prog 13 #[.int .i64 w, .int .u64 V1] W fun r W' => r = .returned (.bool true) ∧ Below W.heap.size W W')) (HI2 : Hid (∀ W, Calls Try.prog 13 #[.int .i64 w, .int .u64 V2] W fun r W' => r = .returned (.bool true) ∧ Below W.heap.size W W')) :
    Calls Try.prog 4 #[.int .i64 w, .int .u64 x] W fun r W' => r = .returned (.bool true) ∧ Below W.heap.size W W' := by
  go_enter Try.func4, Try.ntmps4
  go_wp2_with fail
  refine (unhide HW _).mono ?_
  rintro _ w1 ⟨rfl, hb⟩
  have HB := hide hb
  clear hb
  go_wp2_with fail
  refine (unhide HC1 _).mono ?_
  rintro _ w2 ⟨rfl, hb⟩
  have HB := hide (bthen (unhide HB) hb)
  clear hb
  go_wp2_with fail
  refine (unhide HC2 _).mono ?_
  rintro _ w3 ⟨rfl, hb⟩
  have HB := hide (bthen (unhide HB) hb)
  clear hb
  go_wp2_with fail
  refine (unhide HC3 _).mono ?_
  rintro _ w4 ⟨rfl, hb⟩
  have HB := hide (bthen (unhide HB) hb)
  clear hb
  go_wp2_with fail
  refine (unhide HC4 _).mono ?_
  rintro _ w5 ⟨rfl, hb⟩
  have HB := hide (bthen (unhide HB) hb)
  clear hb
  go_wp2_with fail
  refine (unhide HO _).mono ?_
  rintro _ w6 ⟨rfl, hb⟩
  have HB := hide (balloc (bthen (unhide HB) hb) (.cells #[.bool false, .int .i64 K1, .int .i64 X1, .int .u64 S1] 36))
  have HP := hide (at4_new w6 (.bool false) (.int .i64 K1) (.int .i64 X1) (.int .u64 S1) 36)
  clear hb
  obtain ⟨c0, c1, c2, c3⟩ := unhide HP
  go_wp2_with fail
  clear c0 c1 c2 c3
  refine (unhide HI _).mono ?_
  rintro _ w7 ⟨rfl, hb⟩
  have HB := hide (bthen (unhide HB) hb)
  have HP := hide ((unhide HP).below hb)
  clear hb
  obtain ⟨c0, c1, c2, c3⟩ := unhide HP
  go_wp2_with fail
  clear c0 c1 c2 c3
  refine (unhide HL1 _).mono ?_
  rintro _ w8 ⟨rfl, hb⟩
  have HB := hide (bthen (unhide HB) hb)
  have HP := hide ((unhide HP).below hb)
  clear hb
  obtain ⟨c0, c1, c2, c3⟩ := unhide HP
  go_wp2_with fail
  clear c0 c1 c2 c3
  refine (unhide HL2 _).mono ?_
  rintro _ w9 ⟨rfl, hb⟩
  have HB := hide (bthen (unhide HB) hb)
  have HP := hide ((unhide HP).below hb)
  clear hb
  obtain ⟨c0, c1, c2, c3⟩ := unhide HP
  go_wp2_with fail
  clear c0 c1 c2 c3
  refine (unhide HI1 _).mono ?_
  rintro _ w10 ⟨rfl, hb⟩
  have HB := hide (bthen (unhide HB) hb)
  have HP := hide ((unhide HP).below hb)
  clear hb
  obtain ⟨c0, c1, c2, c3⟩ := unhide HP
  go_wp2_with fail
  clear c0 c1 c2 c3
  refine (unhide HI2 _).mono ?_
  rintro _ w11 ⟨rfl, hb⟩
  have HB := hide (bthen (unhide HB) hb)
  have HP := hide ((unhide HP).below hb)
  clear hb
  obtain ⟨c0, c1, c2, c3⟩ := unhide HP
  go_wp2_with fail
  clear c0 c1 c2 c3
  go_ret
  exact ⟨by simp, unhide HB⟩
set_option maxRecDepth 100000 in
set_option maxHeartbeats 2000000 in
theorem keeps_f264 {w x K1 X1 S1 V1 V2 : Int} (W : World) (g1 : (w != 32) = true) (g2 : (w != 64) = false) (HW : Hid (∀ W, Calls Try.prog 6 #[] W fun r W' => r = .returned (.bool true) ∧ Below W.heap.size W W')) (HC1 : Hid (∀ W, Calls Try.prog 7 #[.int .i64 w, .int .u64 x] W fun r W' => r = .returned (.int .u64 V1) ∧ Below W.heap.size W W')) (HC2 : Hid (∀ W, Calls Try.prog 8 #[.int .i64 w, .int .u64 x] W fun r W' => r = .returned (.int .u64 V2) ∧ Below W.heap.size W W')) (HC3 : Hid (∀ W, Calls Try.prog 9 #[.int .i64 w, .int .u64 x] W fun r W' => r = .returned (.int .u64 V2) ∧ Below W.heap.size W W')) (HC4 : Hid (∀ W, Calls Try.prog 10 #[.int .i64 w, .int .u64 x] W fun r W' => r = .returned (.int .u64 V2) ∧ Below W.heap.size W W')) (HO : Hid (∀ W, Calls Try.prog 16 #[.int .i64 w, .int .u64 x] W fun r W' => r = .returned (.agg #[.bool false, .int .i64 K1, .int .i64 X1, .int .u64 S1]) ∧ Below W.heap.size W W')) (k3 : (K1 == 3) = false) (HI : Hid (∀ W, Calls Try.prog 13 #[.int .i64 w, .int .u64 x] W fun r W' => r = .returned (.bool false) ∧ Below W.heap.size W W')) (k2 : (K1 == 2) = false) (HL1 : Hid (∀ W, Calls Try.prog 19 #[.int .i64 w, .int .u64 V2, .int .u64 x] W fun r W' => r = .returned (.bool true) ∧ Below W.heap.size W W')) (HL2 : Hid (∀ W, Calls Try.prog 19 #[.int .i64 w, .int .u64 x, .int .u64 V1] W fun r W' => r = .returned (.bool true) ∧ Below W.heap.size W W')) (HI1 : Hid (∀ W, Calls Try.prog 13 #[.int .i64 w, .int .u64 V1] W fun r W' => r = .returned (.bool true) ∧ Below W.heap.size W W')) (HI2 : Hid (∀ W, Calls Try.prog 13 #[.int .i64 w, .int .u64 V2] W fun r W' => r = .returned (.bool true) ∧ Below W.heap.size W W')) (hne : (V2 != V1) = true) :
    Calls Try.prog 4 #[.int .i64 w, .int .u64 x] W fun r W' => r = .returned (.bool true) ∧ Below W.heap.size W W' := by
  go_enter Try.func4, Try.ntmps4
  go_wp2_with fail
  refine (unhide HW _).mono ?_
  rintro _ w1 ⟨rfl, hb⟩
  have HB := hide hb
  clear hb
  go_wp2_with fail
  refine (unhide HC1 _).mono ?_
  rintro _ w2 ⟨rfl, hb⟩
  have HB := hide (bthen (unhide HB) hb)
  clear hb
  go_wp2_with fail
  refine (unhide HC2 _).mono ?_
  rintro _ w3 ⟨rfl, hb⟩
  have HB := hide (bthen (unhide HB) hb)
  clear hb
  go_wp2_with fail
  refine (unhide HC3 _).mono ?_
  rintro _ w4 ⟨rfl, hb⟩
  have HB := hide (bthen (unhide HB) hb)
  clear hb
  go_wp2_with fail
  refine (unhide HC4 _).mono ?_
  rintro _ w5 ⟨rfl, hb⟩
  have HB := hide (bthen (unhide HB) hb)
  clear hb
  go_wp2_with fail
  refine (unhide HO _).mono ?_
  rintro _ w6 ⟨rfl, hb⟩
  have HB := hide (balloc (bthen (unhide HB) hb) (.cells #[.bool false, .int .i64 K1, .int .i64 X1, .int .u64 S1] 36))
  have HP := hide (at4_new w6 (.bool false) (.int .i64 K1) (.int .i64 X1) (.int .u64 S1) 36)
  clear hb
  obtain ⟨c0, c1, c2, c3⟩ := unhide HP
  go_wp2_with fail
  clear c0 c1 c2 c3
  refine (unhide HI _).mono ?_
  rintro _ w7 ⟨rfl, hb⟩
  have HB := hide (bthen (unhide HB) hb)
  have HP := hide ((unhide HP).below hb)
  clear hb
  obtain ⟨c0, c1, c2, c3⟩ := unhide HP
  go_wp2_with fail
  clear c0 c1 c2 c3
  refine (unhide HL1 _).mono ?_
  rintro _ w8 ⟨rfl, hb⟩
  have HB := hide (bthen (unhide HB) hb)
  have HP := hide ((unhide HP).below hb)
  clear hb
  obtain ⟨c0, c1, c2, c3⟩ := unhide HP
  go_wp2_with fail
  clear c0 c1 c2 c3
  refine (unhide HL2 _).mono ?_
  rintro _ w9 ⟨rfl, hb⟩
  have HB := hide (bthen (unhide HB) hb)
  have HP := hide ((unhide HP).below hb)
  clear hb
  obtain ⟨c0, c1, c2, c3⟩ := unhide HP
  go_wp2_with fail
  clear c0 c1 c2 c3
  refine (unhide HI1 _).mono ?_
  rintro _ w10 ⟨rfl, hb⟩
  have HB := hide (bthen (unhide HB) hb)
  have HP := hide ((unhide HP).below hb)
  clear hb
  obtain ⟨c0, c1, c2, c3⟩ := unhide HP
  go_wp2_with fail
  clear c0 c1 c2 c3
  refine (unhide HI2 _).mono ?_
  rintro _ w11 ⟨rfl, hb⟩
  have HB := hide (bthen (unhide HB) hb)
  have HP := hide ((unhide HP).below hb)
  clear hb
  obtain ⟨c0, c1, c2, c3⟩ := unhide HP
  go_wp2_with fail
  clear c0 c1 c2 c3
  go_ret
  exact ⟨by simp, unhide HB⟩

end Go.Proofs.Ytepdmpcgkecjiaa
