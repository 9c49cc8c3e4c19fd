/- LawPl, LawPe. -/
import Derived.Test.YtefpknkbfmjajaaG36
namespace Go.Proofs.Ytefpknkbfmjajaa
open Go.RowKit
open Go.Proofs.Ytefpknkbfmjajaa.W

set_option maxRecDepth 100000 in
set_option maxHeartbeats 2000000 in
theorem picks_lp {w x y V1 V2 X1 S1 K2 X2 S2 K1 a b : Int} {n2 : Bool} (W : World) (HW : Hid (∀ W, Calls Try.prog 7 #[] W fun r W' => r = .returned (.bool true) ∧ Below W.heap.size W W')) (HM : Hid (∀ W, Calls Try.prog 16 #[.int .i64 w, .int .u64 x, .int .u64 y] W fun r W' => r = .returned (.int .u64 V1) ∧ Below W.heap.size W W')) (HX : Hid (∀ W, Calls Try.prog 17 #[.int .i64 w, .int .u64 x, .int .u64 y] W fun r W' => r = .returned (.int .u64 V2) ∧ Below W.heap.size W W')) (HR1 : Hid (∀ W, Calls Try.prog 18 #[.int .i64 w, .int .u64 x] W fun r W' => r = .returned (.tuple #[.int .i64 a, .bool true]) ∧ Below W.heap.size W W')) (HR2 : Hid (∀ W, Calls Try.prog 18 #[.int .i64 w, .int .u64 y] W fun r W' => r = .returned (.tuple #[.int .i64 b, .bool true]) ∧ Below W.heap.size W W')) (HK : Hid (∀ W, Calls Try.prog 14 #[.int .i64 w] W fun r W' => r = .returned (.bool true) ∧ Below W.heap.size W W')) (HP1 : Hid (∀ W, Calls Try.prog 19 #[.int .i64 w, .int .u64 x, .int .u64 y, .int .i64 (-1), .bool true] W fun r W' => r = .returned (.int .u64 V1) ∧ Below W.heap.size W W')) (HP2 : Hid (∀ W, Calls Try.prog 19 #[.int .i64 w, .int .u64 x, .int .u64 y, .int .i64 1, .bool false] W fun r W' => r = .returned (.int .u64 V2) ∧ Below W.heap.size W W')) (HO1 : Hid (∀ W, Calls Try.prog 20 #[.int .i64 w, .int .u64 x] W fun r W' => r = .returned (.agg #[.bool false, .int .i64 K1, .int .i64 X1, .int .u64 S1]) ∧ Below W.heap.size W W')) (HO2 : Hid (∀ W, Calls Try.prog 20 #[.int .i64 w, .int .u64 y] W fun r W' => r = .returned (.agg #[.bool n2, .int .i64 K2, .int .i64 X2, .int .u64 S2]) ∧ Below W.heap.size W W')) (HC : Hid (∀ W, Calls Try.prog 15 #[.int .i64 w, .int .u64 x, .int .u64 y] W fun r W' => r = .returned (.int .i64 (-1)) ∧ Below W.heap.size W W')) (k1 : (K1 != 3) = true) (k2 : (K2 != 3) = true) (h1 : a < b) (h2 : (a == b) = false) (h3 : decide (a < 0) = false) :
    Calls Try.prog 4 #[.int .i64 w, .int .u64 x, .int .u64 y] W fun r W' => r = .returned (.bool true) ∧ Below W.heap.size W W' := by
  go_enter Try.func4, Try.ntmps4
  go_wp2_with fail
  refine (unhide HW _).mono ?_
  rintro _ w1 ⟨rfl, hb⟩
  have HB := hide hb
  clear hb
  go_wp2_with fail
  refine (unhide HM _).mono ?_
  rintro _ w2 ⟨rfl, hb⟩
  have HB := hide (bthen (unhide HB) hb)
  clear hb
  go_wp2_with fail
  refine (unhide HX _).mono ?_
  rintro _ w3 ⟨rfl, hb⟩
  have HB := hide (bthen (unhide HB) hb)
  clear hb
  go_wp2_with fail
  refine (unhide HR1 _).mono ?_
  rintro _ w4 ⟨rfl, hb⟩
  have HB := hide (bthen (unhide HB) hb)
  clear hb
  go_wp2_with fail
  refine (unhide HR2 _).mono ?_
  rintro _ w5 ⟨rfl, hb⟩
  have HB := hide (bthen (unhide HB) hb)
  clear hb
  go_wp2_with fail
  refine (unhide HK _).mono ?_
  rintro _ w6 ⟨rfl, hb⟩
  have HB := hide (bthen (unhide HB) hb)
  clear hb
  go_wp2_with fail
  refine (unhide HP1 _).mono ?_
  rintro _ w7 ⟨rfl, hb⟩
  have HB := hide (bthen (unhide HB) hb)
  clear hb
  go_wp2_with fail
  refine (unhide HP2 _).mono ?_
  rintro _ w8 ⟨rfl, hb⟩
  have HB := hide (bthen (unhide HB) hb)
  clear hb
  go_wp2_with fail
  refine (unhide HO1 _).mono ?_
  rintro _ w9 ⟨rfl, hb⟩
  have HB := hide (bthen (unhide HB) hb)
  clear hb
  go_wp2_with fail
  refine (unhide HO2 _).mono ?_
  rintro _ w10 ⟨rfl, hb⟩
  have HB := hide (bthen (unhide HB) hb)
  have HB := hide (balloc (balloc (unhide HB) (.cells #[.bool false, .int .i64 K1, .int .i64 X1, .int .u64 S1] 32)) (.cells #[.bool n2, .int .i64 K2, .int .i64 X2, .int .u64 S2] 32))
  have H1 := hide (at4_new2a w10 (.bool false) (.int .i64 K1) (.int .i64 X1) (.int .u64 S1) 32 (.cells #[.bool n2, .int .i64 K2, .int .i64 X2, .int .u64 S2] 32))
  have H2 := hide (at4_new2b w10 (.cells #[.bool false, .int .i64 K1, .int .i64 X1, .int .u64 S1] 32) (.bool n2) (.int .i64 K2) (.int .i64 X2) (.int .u64 S2) 32)
  obtain ⟨c0, c1, c2, c3⟩ := unhide H1
  obtain ⟨d0, d1, d2, d3⟩ := unhide H2
  clear hb
  go_wp2_with fail
  refine (unhide HC _).mono ?_
  rintro _ w11 ⟨rfl, hb⟩
  have HB := hide (bthen (unhide HB) hb)
  have H1 := hide ((unhide H1).below hb)
  have H2 := hide ((unhide H2).below hb)
  clear c0 c1 c2 c3 d0 d1 d2 d3
  obtain ⟨c0, c1, c2, c3⟩ := unhide H1
  obtain ⟨d0, d1, d2, d3⟩ := unhide H2
  clear hb
  go_wp2_with fail
  go_ret
  exact ⟨by first | rfl | simp [h3], unhide HB⟩
set_option maxRecDepth 100000 in
set_option maxHeartbeats 2000000 in
theorem picks_lm {w x y V1 V2 X1 S1 K2 X2 S2 K1 a b : Int} {n2 : Bool} (W : World) (HW : Hid (∀ W, Calls Try.prog 7 #[] W fun r W' => r = .returned (.bool true) ∧ Below W.heap.size W W')) (HM : Hid (∀ W, Calls Try.prog 16 #[.int .i64 w, .int .u64 x, .int .u64 y] W fun r W' => r = .returned (.int .u64 V1) ∧ Below W.heap.size W W')) (HX : Hid (∀ W, Calls Try.prog 17 #[.int .i64 w, .int .u64 x, .int .u64 y] W fun r W' => r = .returned (.int .u64 V2) ∧ Below W.heap.size W W')) (HR1 : Hid (∀ W, Calls Try.prog 18 #[.int .i64 w, .int .u64 x] W fun r W' => r = .returned (.tuple #[.int .i64 a, .bool true]) ∧ Below W.heap.size W W')) (HR2 : Hid (∀ W, Calls Try.prog 18 #[.int .i64 w, .int .u64 y] W fun r W' => r = .returned (.tuple #[.int .i64 b, .bool true]) ∧ Below W.heap.size W W')) (HK : Hid (∀ W, Calls Try.prog 14 #[.int .i64 w] W fun r W' => r = .returned (.bool true) ∧ Below W.heap.size W W')) (HP1 : Hid (∀ W, Calls Try.prog 19 #[.int .i64 w, .int .u64 x, .int .u64 y, .int .i64 (-1), .bool true] W fun r W' => r = .returned (.int .u64 V1) ∧ Below W.heap.size W W')) (HP2 : Hid (∀ W, Calls Try.prog 19 #[.int .i64 w, .int .u64 x, .int .u64 y, .int .i64 1, .bool false] W fun r W' => r = .returned (.int .u64 V2) ∧ Below W.heap.size W W')) (HO1 : Hid (∀ W, Calls Try.prog 20 #[.int .i64 w, .int .u64 x] W fun r W' => r = .returned (.agg #[.bool true, .int .i64 K1, .int .i64 X1, .int .u64 S1]) ∧ Below W.heap.size W W')) (HO2 : Hid (∀ W, Calls Try.prog 20 #[.int .i64 w, .int .u64 y] W fun r W' => r = .returned (.agg #[.bool n2, .int .i64 K2, .int .i64 X2, .int .u64 S2]) ∧ Below W.heap.size W W')) (HC : Hid (∀ W, Calls Try.prog 15 #[.int .i64 w, .int .u64 x, .int .u64 y] W fun r W' => r = .returned (.int .i64 (-1)) ∧ Below W.heap.size W W')) (k1 : (K1 != 3) = true) (k2 : (K2 != 3) = true) (h1 : a < b) (h2 : (a == b) = false) (h3 : a < 0) (h4 : (K1 != 0) = true) :
    Calls Try.prog 4 #[.int .i64 w, .int .u64 x, .int .u64 y] W fun r W' => r = .returned (.bool true) ∧ Below W.heap.size W W' := by
  go_enter Try.func4, Try.ntmps4
  go_wp2_with fail
  refine (unhide HW _).mono ?_
  rintro _ w1 ⟨rfl, hb⟩
  have HB := hide hb
  clear hb
  go_wp2_with fail
  refine (unhide HM _).mono ?_
  rintro _ w2 ⟨rfl, hb⟩
  have HB := hide (bthen (unhide HB) hb)
  clear hb
  go_wp2_with fail
  refine (unhide HX _).mono ?_
  rintro _ w3 ⟨rfl, hb⟩
  have HB := hide (bthen (unhide HB) hb)
  clear hb
  go_wp2_with fail
  refine (unhide HR1 _).mono ?_
  rintro _ w4 ⟨rfl, hb⟩
  have HB := hide (bthen (unhide HB) hb)
  clear hb
  go_wp2_with fail
  refine (unhide HR2 _).mono ?_
  rintro _ w5 ⟨rfl, hb⟩
  have HB := hide (bthen (unhide HB) hb)
  clear hb
  go_wp2_with fail
  refine (unhide HK _).mono ?_
  rintro _ w6 ⟨rfl, hb⟩
  have HB := hide (bthen (unhide HB) hb)
  clear hb
  go_wp2_with fail
  refine (unhide HP1 _).mono ?_
  rintro _ w7 ⟨rfl, hb⟩
  have HB := hide (bthen (unhide HB) hb)
  clear hb
  go_wp2_with fail
  refine (unhide HP2 _).mono ?_
  rintro _ w8 ⟨rfl, hb⟩
  have HB := hide (bthen (unhide HB) hb)
  clear hb
  go_wp2_with fail
  refine (unhide HO1 _).mono ?_
  rintro _ w9 ⟨rfl, hb⟩
  have HB := hide (bthen (unhide HB) hb)
  clear hb
  go_wp2_with fail
  refine (unhide HO2 _).mono ?_
  rintro _ w10 ⟨rfl, hb⟩
  have HB := hide (bthen (unhide HB) hb)
  have HB := hide (balloc (balloc (unhide HB) (.cells #[.bool true, .int .i64 K1, .int .i64 X1, .int .u64 S1] 32)) (.cells #[.bool n2, .int .i64 K2, .int .i64 X2, .int .u64 S2] 32))
  have H1 := hide (at4_new2a w10 (.bool true) (.int .i64 K1) (.int .i64 X1) (.int .u64 S1) 32 (.cells #[.bool n2, .int .i64 K2, .int .i64 X2, .int .u64 S2] 32))
  have H2 := hide (at4_new2b w10 (.cells #[.bool true, .int .i64 K1, .int .i64 X1, .int .u64 S1] 32) (.bool n2) (.int .i64 K2) (.int .i64 X2) (.int .u64 S2) 32)
  obtain ⟨c0, c1, c2, c3⟩ := unhide H1
  obtain ⟨d0, d1, d2, d3⟩ := unhide H2
  clear hb
  go_wp2_with fail
  refine (unhide HC _).mono ?_
  rintro _ w11 ⟨rfl, hb⟩
  have HB := hide (bthen (unhide HB) hb)
  have H1 := hide ((unhide H1).below hb)
  have H2 := hide ((unhide H2).below hb)
  clear c0 c1 c2 c3 d0 d1 d2 d3
  obtain ⟨c0, c1, c2, c3⟩ := unhide H1
  obtain ⟨d0, d1, d2, d3⟩ := unhide H2
  clear hb
  go_wp2_with fail
  go_ret
  exact ⟨by first | rfl | simp [h3], unhide HB⟩
set_option maxRecDepth 100000 in
set_option maxHeartbeats 2000000 in
theorem picks_lz {w x y V1 V2 X1 S1 K2 X2 S2 K1 a b : Int} {n2 : Bool} (W : World) (HW : Hid (∀ W, Calls Try.prog 7 #[] W fun r W' => r = .returned (.bool true) ∧ Below W.heap.size W W')) (HM : Hid (∀ W, Calls Try.prog 16 #[.int .i64 w, .int .u64 x, .int .u64 y] W fun r W' => r = .returned (.int .u64 V1) ∧ Below W.heap.size W W')) (HX : Hid (∀ W, Calls Try.prog 17 #[.int .i64 w, .int .u64 x, .int .u64 y] W fun r W' => r = .returned (.int .u64 V2) ∧ Below W.heap.size W W')) (HR1 : Hid (∀ W, Calls Try.prog 18 #[.int .i64 w, .int .u64 x] W fun r W' => r = .returned (.tuple #[.int .i64 a, .bool true]) ∧ Below W.heap.size W W')) (HR2 : Hid (∀ W, Calls Try.prog 18 #[.int .i64 w, .int .u64 y] W fun r W' => r = .returned (.tuple #[.int .i64 b, .bool true]) ∧ Below W.heap.size W W')) (HK : Hid (∀ W, Calls Try.prog 14 #[.int .i64 w] W fun r W' => r = .returned (.bool true) ∧ Below W.heap.size W W')) (HP1 : Hid (∀ W, Calls Try.prog 19 #[.int .i64 w, .int .u64 x, .int .u64 y, .int .i64 (-1), .bool true] W fun r W' => r = .returned (.int .u64 V1) ∧ Below W.heap.size W W')) (HP2 : Hid (∀ W, Calls Try.prog 19 #[.int .i64 w, .int .u64 x, .int .u64 y, .int .i64 1, .bool false] W fun r W' => r = .returned (.int .u64 V2) ∧ Below W.heap.size W W')) (HO1 : Hid (∀ W, Calls Try.prog 20 #[.int .i64 w, .int .u64 x] W fun r W' => r = .returned (.agg #[.bool true, .int .i64 K1, .int .i64 X1, .int .u64 S1]) ∧ Below W.heap.size W W')) (HO2 : Hid (∀ W, Calls Try.prog 20 #[.int .i64 w, .int .u64 y] W fun r W' => r = .returned (.agg #[.bool n2, .int .i64 K2, .int .i64 X2, .int .u64 S2]) ∧ Below W.heap.size W W')) (HC : Hid (∀ W, Calls Try.prog 15 #[.int .i64 w, .int .u64 x, .int .u64 y] W fun r W' => r = .returned (.int .i64 (-1)) ∧ Below W.heap.size W W')) (k1 : (K1 != 3) = true) (k2 : (K2 != 3) = true) (h1 : a < b) (h2 : (a == b) = false) (h3 : decide (a < 0) = false) (h4 : (K1 != 0) = false) :
    Calls Try.prog 4 #[.int .i64 w, .int .u64 x, .int .u64 y] W fun r W' => r = .returned (.bool true) ∧ Below W.heap.size W W' := by
  go_enter Try.func4, Try.ntmps4
  go_wp2_with fail
  refine (unhide HW _).mono ?_
  rintro _ w1 ⟨rfl, hb⟩
  have HB := hide hb
  clear hb
  go_wp2_with fail
  refine (unhide HM _).mono ?_
  rintro _ w2 ⟨rfl, hb⟩
  have HB := hide (bthen (unhide HB) hb)
  clear hb
  go_wp2_with fail
  refine (unhide HX _).mono ?_
  rintro _ w3 ⟨rfl, hb⟩
  have HB := hide (bthen (unhide HB) hb)
  clear hb
  go_wp2_with fail
  refine (unhide HR1 _).mono ?_
  rintro _ w4 ⟨rfl, hb⟩
  have HB := hide (bthen (unhide HB) hb)
  clear hb
  go_wp2_with fail
  refine (unhide HR2 _).mono ?_
  rintro _ w5 ⟨rfl, hb⟩
  have HB := hide (bthen (unhide HB) hb)
  clear hb
  go_wp2_with fail
  refine (unhide HK _).mono ?_
  rintro _ w6 ⟨rfl, hb⟩
  have HB := hide (bthen (unhide HB) hb)
  clear hb
  go_wp2_with fail
  refine (unhide HP1 _).mono ?_
  rintro _ w7 ⟨rfl, hb⟩
  have HB := hide (bthen (unhide HB) hb)
  clear hb
  go_wp2_with fail
  refine (unhide HP2 _).mono ?_
  rintro _ w8 ⟨rfl, hb⟩
  have HB := hide (bthen (unhide HB) hb)
  clear hb
  go_wp2_with fail
  refine (unhide HO1 _).mono ?_
  rintro _ w9 ⟨rfl, hb⟩
  have HB := hide (bthen (unhide HB) hb)
  clear hb
  go_wp2_with fail
  refine (unhide HO2 _).mono ?_
  rintro _ w10 ⟨rfl, hb⟩
  have HB := hide (bthen (unhide HB) hb)
  have HB := hide (balloc (balloc (unhide HB) (.cells #[.bool true, .int .i64 K1, .int .i64 X1, .int .u64 S1] 32)) (.cells #[.bool n2, .int .i64 K2, .int .i64 X2, .int .u64 S2] 32))
  have H1 := hide (at4_new2a w10 (.bool true) (.int .i64 K1) (.int .i64 X1) (.int .u64 S1) 32 (.cells #[.bool n2, .int .i64 K2, .int .i64 X2, .int .u64 S2] 32))
  have H2 := hide (at4_new2b w10 (.cells #[.bool true, .int .i64 K1, .int .i64 X1, .int .u64 S1] 32) (.bool n2) (.int .i64 K2) (.int .i64 X2) (.int .u64 S2) 32)
  obtain ⟨c0, c1, c2, c3⟩ := unhide H1
  obtain ⟨d0, d1, d2, d3⟩ := unhide H2
  clear hb
  go_wp2_with fail
  refine (unhide HC _).mono ?_
  rintro _ w11 ⟨rfl, hb⟩
  have HB := hide (bthen (unhide HB) hb)
  have H1 := hide ((unhide H1).below hb)
  have H2 := hide ((unhide H2).below hb)
  clear c0 c1 c2 c3 d0 d1 d2 d3
  obtain ⟨c0, c1, c2, c3⟩ := unhide H1
  obtain ⟨d0, d1, d2, d3⟩ := unhide H2
  clear hb
  go_wp2_with fail
  go_ret
  exact ⟨by first | rfl | simp [h3], unhide HB⟩

end Go.Proofs.Ytefpknkbfmjajaa
namespace Go.Proofs.Ytefpknkbfmjajaa
open Go.RowKit
open Go.Proofs.Ytefpknkbfmjajaa.W

set_option maxRecDepth 100000 in
set_option maxHeartbeats 2000000 in
theorem picks_ep {w x y V1 V2 X1 S1 K2 X2 S2 K1 a b : Int} {n2 : Bool} (W : World) (HW : Hid (∀ W, Calls Try.prog 7 #[] W fun r W' => r = .returned (.bool true) ∧ Below W.heap.size W W')) (HM : Hid (∀ W, Calls Try.prog 16 #[.int .i64 w, .int .u64 x, .int .u64 y] W fun r W' => r = .returned (.int .u64 V1) ∧ Below W.heap.size W W')) (HX : Hid (∀ W, Calls Try.prog 17 #[.int .i64 w, .int .u64 x, .int .u64 y] W fun r W' => r = .returned (.int .u64 V2) ∧ Below W.heap.size W W')) (HR1 : Hid (∀ W, Calls Try.prog 18 #[.int .i64 w, .int .u64 x] W fun r W' => r = .returned (.tuple #[.int .i64 a, .bool true]) ∧ Below W.heap.size W W')) (HR2 : Hid (∀ W, Calls Try.prog 18 #[.int .i64 w, .int .u64 y] W fun r W' => r = .returned (.tuple #[.int .i64 b, .bool true]) ∧ Below W.heap.size W W')) (HK : Hid (∀ W, Calls Try.prog 14 #[.int .i64 w] W fun r W' => r = .returned (.bool true) ∧ Below W.heap.size W W')) (HP1 : Hid (∀ W, Calls Try.prog 19 #[.int .i64 w, .int .u64 x, .int .u64 y, .int .i64 (-1), .bool true] W fun r W' => r = .returned (.int .u64 V1) ∧ Below W.heap.size W W')) (HP2 : Hid (∀ W, Calls Try.prog 19 #[.int .i64 w, .int .u64 x, .int .u64 y, .int .i64 1, .bool false] W fun r W' => r = .returned (.int .u64 V2) ∧ Below W.heap.size W W')) (HO1 : Hid (∀ W, Calls Try.prog 20 #[.int .i64 w, .int .u64 x] W fun r W' => r = .returned (.agg #[.bool false, .int .i64 K1, .int .i64 X1, .int .u64 S1]) ∧ Below W.heap.size W W')) (HO2 : Hid (∀ W, Calls Try.prog 20 #[.int .i64 w, .int .u64 y] W fun r W' => r = .returned (.agg #[.bool n2, .int .i64 K2, .int .i64 X2, .int .u64 S2]) ∧ Below W.heap.size W W')) (HC : Hid (∀ W, Calls Try.prog 15 #[.int .i64 w, .int .u64 x, .int .u64 y] W fun r W' => r = .returned (.int .i64 0) ∧ Below W.heap.size W W')) (k1 : (K1 != 3) = true) (k2 : (K2 != 3) = true) (h1 : decide (a < b) = false) (h2 : (a == b) = true) (h3 : decide (a < 0) = false) :
    Calls Try.prog 4 #[.int .i64 w, .int .u64 x, .int .u64 y] W fun r W' => r = .returned (.bool true) ∧ Below W.heap.size W W' := by
  go_enter Try.func4, Try.ntmps4
  go_wp2_with fail
  refine (unhide HW _).mono ?_
  rintro _ w1 ⟨rfl, hb⟩
  have HB := hide hb
  clear hb
  go_wp2_with fail
  refine (unhide HM _).mono ?_
  rintro _ w2 ⟨rfl, hb⟩
  have HB := hide (bthen (unhide HB) hb)
  clear hb
  go_wp2_with fail
  refine (unhide HX _).mono ?_
  rintro _ w3 ⟨rfl, hb⟩
  have HB := hide (bthen (unhide HB) hb)
  clear hb
  go_wp2_with fail
  refine (unhide HR1 _).mono ?_
  rintro _ w4 ⟨rfl, hb⟩
  have HB := hide (bthen (unhide HB) hb)
  clear hb
  go_wp2_with fail
  refine (unhide HR2 _).mono ?_
  rintro _ w5 ⟨rfl, hb⟩
  have HB := hide (bthen (unhide HB) hb)
  clear hb
  go_wp2_with fail
  refine (unhide HK _).mono ?_
  rintro _ w6 ⟨rfl, hb⟩
  have HB := hide (bthen (unhide HB) hb)
  clear hb
  go_wp2_with fail
  refine (unhide HP1 _).mono ?_
  rintro _ w7 ⟨rfl, hb⟩
  have HB := hide (bthen (unhide HB) hb)
  clear hb
  go_wp2_with fail
  refine (unhide HP2 _).mono ?_
  rintro _ w8 ⟨rfl, hb⟩
  have HB := hide (bthen (unhide HB) hb)
  clear hb
  go_wp2_with fail
  refine (unhide HO1 _).mono ?_
  rintro _ w9 ⟨rfl, hb⟩
  have HB := hide (bthen (unhide HB) hb)
  clear hb
  go_wp2_with fail
  refine (unhide HO2 _).mono ?_
  rintro _ w10 ⟨rfl, hb⟩
  have HB := hide (bthen (unhide HB) hb)
  have HB := hide (balloc (balloc (unhide HB) (.cells #[.bool false, .int .i64 K1, .int .i64 X1, .int .u64 S1] 32)) (.cells #[.bool n2, .int .i64 K2, .int .i64 X2, .int .u64 S2] 32))
  have H1 := hide (at4_new2a w10 (.bool false) (.int .i64 K1) (.int .i64 X1) (.int .u64 S1) 32 (.cells #[.bool n2, .int .i64 K2, .int .i64 X2, .int .u64 S2] 32))
  have H2 := hide (at4_new2b w10 (.cells #[.bool false, .int .i64 K1, .int .i64 X1, .int .u64 S1] 32) (.bool n2) (.int .i64 K2) (.int .i64 X2) (.int .u64 S2) 32)
  obtain ⟨c0, c1, c2, c3⟩ := unhide H1
  obtain ⟨d0, d1, d2, d3⟩ := unhide H2
  clear hb
  go_wp2_with fail
  refine (unhide HC _).mono ?_
  rintro _ w11 ⟨rfl, hb⟩
  have HB := hide (bthen (unhide HB) hb)
  have H1 := hide ((unhide H1).below hb)
  have H2 := hide ((unhide H2).below hb)
  clear c0 c1 c2 c3 d0 d1 d2 d3
  obtain ⟨c0, c1, c2, c3⟩ := unhide H1
  obtain ⟨d0, d1, d2, d3⟩ := unhide H2
  clear hb
  go_wp2_with fail
  go_ret
  exact ⟨by first | rfl | simp [h3], unhide HB⟩
set_option maxRecDepth 100000 in
set_option maxHeartbeats 2000000 in
theorem picks_em {w x y V1 V2 X1 S1 K2 X2 S2 K1 a b : Int} {n2 : Bool} (W : World) (HW : Hid (∀ W, Calls Try.prog 7 #[] W fun r W' => r = .returned (.bool true) ∧ Below W.heap.size W W')) (HM : Hid (∀ W, Calls Try.prog 16 #[.int .i64 w, .int .u64 x, .int .u64 y] W fun r W' => r = .returned (.int .u64 V1) ∧ Below W.heap.size W W')) (HX : Hid (∀ W, Calls Try.prog 17 #[.int .i64 w, .int .u64 x, .int .u64 y] W fun r W' => r = .returned (.int .u64 V2) ∧ Below W.heap.size W W')) (HR1 : Hid (∀ W, Calls Try.prog 18 #[.int .i64 w, .int .u64 x] W fun r W' => r = .returned (.tuple #[.int .i64 a, .bool true]) ∧ Below W.heap.size W W')) (HR2 : Hid (∀ W, Calls Try.prog 18 #[.int .i64 w, .int .u64 y] W fun r W' => r = .returned (.tuple #[.int .i64 b, .bool true]) ∧ Below W.heap.size W W')) (HK : Hid (∀ W, Calls Try.prog 14 #[.int .i64 w] W fun r W' => r = .returned (.bool true) ∧ Below W.heap.size W W')) (HP1 : Hid (∀ W, Calls Try.prog 19 #[.int .i64 w, .int .u64 x, .int .u64 y, .int .i64 (-1), .bool true] W fun r W' => r = .returned (.int .u64 V1) ∧ Below W.heap.size W W')) (HP2 : Hid (∀ W, Calls Try.prog 19 #[.int .i64 w, .int .u64 x, .int .u64 y, .int .i64 1, .bool false] W fun r W' => r = .returned (.int .u64 V2) ∧ Below W.heap.size W W')) (HO1 : Hid (∀ W, Calls Try.prog 20 #[.int .i64 w, .int .u64 x] W fun r W' => r = .returned (.agg #[.bool true, .int .i64 K1, .int .i64 X1, .int .u64 S1]) ∧ Below W.heap.size W W')) (HO2 : Hid (∀ W, Calls Try.prog 20 #[.int .i64 w, .int .u64 y] W fun r W' => r = .returned (.agg #[.bool n2, .int .i64 K2, .int .i64 X2, .int .u64 S2]) ∧ Below W.heap.size W W')) (HC : Hid (∀ W, Calls Try.prog 15 #[.int .i64 w, .int .u64 x, .int .u64 y] W fun r W' => r = .returned (.int .i64 0) ∧ Below W.heap.size W W')) (k1 : (K1 != 3) = true) (k2 : (K2 != 3) = true) (h1 : decide (a < b) = false) (h2 : (a == b) = true) (h3 : a < 0) (h4 : (K1 != 0) = true) :
    Calls Try.prog 4 #[.int .i64 w, .int .u64 x, .int .u64 y] W fun r W' => r = .returned (.bool true) ∧ Below W.heap.size W W' := by
  go_enter Try.func4, Try.ntmps4
  go_wp2_with fail
  refine (unhide HW _).mono ?_
  rintro _ w1 ⟨rfl, hb⟩
  have HB := hide hb
  clear hb
  go_wp2_with fail
  refine (unhide HM _).mono ?_
  rintro _ w2 ⟨rfl, hb⟩
  have HB := hide (bthen (unhide HB) hb)
  clear hb
  go_wp2_with fail
  refine (unhide HX _).mono ?_
  rintro _ w3 ⟨rfl, hb⟩
  have HB := hide (bthen (unhide HB) hb)
  clear hb
  go_wp2_with fail
  refine (unhide HR1 _).mono ?_
  rintro _ w4 ⟨rfl, hb⟩
  have HB := hide (bthen (unhide HB) hb)
  clear hb
  go_wp2_with fail
  refine (unhide HR2 _).mono ?_
  rintro _ w5 ⟨rfl, hb⟩
  have HB := hide (bthen (unhide HB) hb)
  clear hb
  go_wp2_with fail
  refine (unhide HK _).mono ?_
  rintro _ w6 ⟨rfl, hb⟩
  have HB := hide (bthen (unhide HB) hb)
  clear hb
  go_wp2_with fail
  refine (unhide HP1 _).mono ?_
  rintro _ w7 ⟨rfl, hb⟩
  have HB := hide (bthen (unhide HB) hb)
  clear hb
  go_wp2_with fail
  refine (unhide HP2 _).mono ?_
  rintro _ w8 ⟨rfl, hb⟩
  have HB := hide (bthen (unhide HB) hb)
  clear hb
  go_wp2_with fail
  refine (unhide HO1 _).mono ?_
  rintro _ w9 ⟨rfl, hb⟩
  have HB := hide (bthen (unhide HB) hb)
  clear hb
  go_wp2_with fail
  refine (unhide HO2 _).mono ?_
  rintro _ w10 ⟨rfl, hb⟩
  have HB := hide (bthen (unhide HB) hb)
  have HB := hide (balloc (balloc (unhide HB) (.cells #[.bool true, .int .i64 K1, .int .i64 X1, .int .u64 S1] 32)) (.cells #[.bool n2, .int .i64 K2, .int .i64 X2, .int .u64 S2] 32))
  have H1 := hide (at4_new2a w10 (.bool true) (.int .i64 K1) (.int .i64 X1) (.int .u64 S1) 32 (.cells #[.bool n2, .int .i64 K2, .int .i64 X2, .int .u64 S2] 32))
  have H2 := hide (at4_new2b w10 (.cells #[.bool true, .int .i64 K1, .int .i64 X1, .int .u64 S1] 32) (.bool n2) (.int .i64 K2) (.int .i64 X2) (.int .u64 S2) 32)
  obtain ⟨c0, c1, c2, c3⟩ := unhide H1
  obtain ⟨d0, d1, d2, d3⟩ := unhide H2
  clear hb
  go_wp2_with fail
  refine (unhide HC _).mono ?_
  rintro _ w11 ⟨rfl, hb⟩
  have HB := hide (bthen (unhide HB) hb)
  have H1 := hide ((unhide H1).below hb)
  have H2 := hide ((unhide H2).below hb)
  clear c0 c1 c2 c3 d0 d1 d2 d3
  obtain ⟨c0, c1, c2, c3⟩ := unhide H1
  obtain ⟨d0, d1, d2, d3⟩ := unhide H2
  clear hb
  go_wp2_with fail
  go_ret
  exact ⟨by first | rfl | simp [h3], unhide HB⟩
set_option maxRecDepth 100000 in
set_option maxHeartbeats 2000000 in
theorem picks_ez {w x y V1 V2 X1 S1 K2 X2 S2 K1 a b : Int} {n2 : Bool} (W : World) (HW : Hid (∀ W, Calls Try.prog 7 #[] W fun r W' => r = .returned (.bool true) ∧ Below W.heap.size W W')) (HM : Hid (∀ W, Calls Try.prog 16 #[.int .i64 w, .int .u64 x, .int .u64 y] W fun r W' => r = .returned (.int .u64 V1) ∧ Below W.heap.size W W')) (HX : Hid (∀ W, Calls Try.prog 17 #[.int .i64 w, .int .u64 x, .int .u64 y] W fun r W' => r = .returned (.int .u64 V2) ∧ Below W.heap.size W W')) (HR1 : Hid (∀ W, Calls Try.prog 18 #[.int .i64 w, .int .u64 x] W fun r W' => r = .returned (.tuple #[.int .i64 a, .bool true]) ∧ Below W.heap.size W W')) (HR2 : Hid (∀ W, Calls Try.prog 18 #[.int .i64 w, .int .u64 y] W fun r W' => r = .returned (.tuple #[.int .i64 b, .bool true]) ∧ Below W.heap.size W W')) (HK : Hid (∀ W, Calls Try.prog 14 #[.int .i64 w] W fun r W' => r = .returned (.bool true) ∧ Below W.heap.size W W')) (HP1 : Hid (∀ W, Calls Try.prog 19 #[.int .i64 w, .int .u64 x, .int .u64 y, .int .i64 (-1), .bool true] W fun r W' => r = .returned (.int .u64 V1) ∧ Below W.heap.size W W')) (HP2 : Hid (∀ W, Calls Try.prog 19 #[.int .i64 w, .int .u64 x, .int .u64 y, .int .i64 1, .bool false] W fun r W' => r = .returned (.int .u64 V2) ∧ Below W.heap.size W W')) (HO1 : Hid (∀ W, Calls Try.prog 20 #[.int .i64 w, .int .u64 x] W fun r W' => r = .returned (.agg #[.bool true, .int .i64 K1, .int .i64 X1, .int .u64 S1]) ∧ Below W.heap.size W W')) (HO2 : Hid (∀ W, Calls Try.prog 20 #[.int .i64 w, .int .u64 y] W fun r W' => r = .returned (.agg #[.bool n2, .int .i64 K2, .int .i64 X2, .int .u64 S2]) ∧ Below W.heap.size W W')) (HC : Hid (∀ W, Calls Try.prog 15 #[.int .i64 w, .int .u64 x, .int .u64 y] W fun r W' => r = .returned (.int .i64 0) ∧ Below W.heap.size W W')) (k1 : (K1 != 3) = true) (k2 : (K2 != 3) = true) (h1 : decide (a < b) = false) (h2 : (a == b) = true) (h3 : decide (a < 0) = false) (h4 : (K1 != 0) = false) :
    Calls Try.prog 4 #[.int .i64 w, .int .u64 x, .int .u64 y] W fun r W' => r = .returned (.bool true) ∧ Below W.heap.size W W' := by
  go_enter Try.func4, Try.ntmps4
  go_wp2_with fail
  refine (unhide HW _).mono ?_
  rintro _ w1 ⟨rfl, hb⟩
  have HB := hide hb
  clear hb
  go_wp2_with fail
  refine (unhide HM _).mono ?_
  rintro _ w2 ⟨rfl, hb⟩
  have HB := hide (bthen (unhide HB) hb)
  clear hb
  go_wp2_with fail
  refine (unhide HX _).mono ?_
  rintro _ w3 ⟨rfl, hb⟩
  have HB := hide (bthen (unhide HB) hb)
  clear hb
  go_wp2_with fail
  refine (unhide HR1 _).mono ?_
  rintro _ w4 ⟨rfl, hb⟩
  have HB := hide (bthen (unhide HB) hb)
  clear hb
  go_wp2_with fail
  refine (unhide HR2 _).mono ?_
  rintro _ w5 ⟨rfl, hb⟩
  have HB := hide (bthen (unhide HB) hb)
  clear hb
  go_wp2_with fail
  refine (unhide HK _).mono ?_
  rintro _ w6 ⟨rfl, hb⟩
  have HB := hide (bthen (unhide HB) hb)
  clear hb
  go_wp2_with fail
  refine (unhide HP1 _).mono ?_
  rintro _ w7 ⟨rfl, hb⟩
  have HB := hide (bthen (unhide HB) hb)
  clear hb
  go_wp2_with fail
  refine (unhide HP2 _).mono ?_
  rintro _ w8 ⟨rfl, hb⟩
  have HB := hide (bthen (unhide HB) hb)
  clear hb
  go_wp2_with fail
  refine (unhide HO1 _).mono ?_
  rintro _ w9 ⟨rfl, hb⟩
  have HB := hide (bthen (unhide HB) hb)
  clear hb
  go_wp2_with fail
  refine (unhide HO2 _).mono ?_
  rintro _ w10 ⟨rfl, hb⟩
  have HB := hide (bthen (unhide HB) hb)
  have HB := hide (balloc (balloc (unhide HB) (.cells #[.bool true, .int .i64 K1, .int .i64 X1, .int .u64 S1] 32)) (.cells #[.bool n2, .int .i64 K2, .int .i64 X2, .int .u64 S2] 32))
  have H1 := hide (at4_new2a w10 (.bool true) (.int .i64 K1) (.int .i64 X1) (.int .u64 S1) 32 (.cells #[.bool n2, .int .i64 K2, .int .i64 X2, .int .u64 S2] 32))
  have H2 := hide (at4_new2b w10 (.cells #[.bool true, .int .i64 K1, .int .i64 X1, .int .u64 S1] 32) (.bool n2) (.int .i64 K2) (.int .i64 X2) (.int .u64 S2) 32)
  obtain ⟨c0, c1, c2, c3⟩ := unhide H1
  obtain ⟨d0, d1, d2, d3⟩ := unhide H2
  clear hb
  go_wp2_with fail
  refine (unhide HC _).mono ?_
  rintro _ w11 ⟨rfl, hb⟩
  have HB := hide (bthen (unhide HB) hb)
  have H1 := hide ((unhide H1).below hb)
  have H2 := hide ((unhide H2).below hb)
  clear c0 c1 c2 c3 d0 d1 d2 d3
  obtain ⟨c0, c1, c2, c3⟩ := unhide H1
  obtain ⟨d0, d1, d2, d3⟩ := unhide H2
  clear hb
  go_wp2_with fail
  go_ret
  exact ⟨by first | rfl | simp [h3], unhide HB⟩

end Go.Proofs.Ytefpknkbfmjajaa
