/- LawPg, OrdK, LawKn32, LawKn64. -/
import Derived.Test.YtefpknkbfmjajaaG36
import Derived.LoopN
namespace Go.Proofs.Ytefpknkbfmjajaa
open Go.RowKit
open Go.Proofs.Ytefpknkbfmjajaa.W

set_option maxRecDepth 100000 in
set_option maxHeartbeats 2000000 in
theorem picks_gp {w x y V1 V2 X1 S1 K2 X2 S2 K1 a b : Int} {n2 : Bool} (W : World) (HW : Hid (∀ W, Calls Try.prog 7 #[] W fun r W' => r = .returned (.bool true) ∧ Below W.heap.size W W')) (HM : Hid (∀ W, Calls Try.prog 16 #[.int .i64 w, .int .u64 x, .int .u64 y] W fun r W' => r = .returned (.int .u64 V1) ∧ Below W.heap.size W W')) (HX : Hid (∀ W, Calls Try.prog 17 #[.int .i64 w, .int .u64 x, .int .u64 y] W fun r W' => r = .returned (.int .u64 V2) ∧ Below W.heap.size W W')) (HR1 : Hid (∀ W, Calls Try.prog 18 #[.int .i64 w, .int .u64 x] W fun r W' => r = .returned (.tuple #[.int .i64 a, .bool true]) ∧ Below W.heap.size W W')) (HR2 : Hid (∀ W, Calls Try.prog 18 #[.int .i64 w, .int .u64 y] W fun r W' => r = .returned (.tuple #[.int .i64 b, .bool true]) ∧ Below W.heap.size W W')) (HK : Hid (∀ W, Calls Try.prog 14 #[.int .i64 w] W fun r W' => r = .returned (.bool true) ∧ Below W.heap.size W W')) (HP1 : Hid (∀ W, Calls Try.prog 19 #[.int .i64 w, .int .u64 x, .int .u64 y, .int .i64 (-1), .bool true] W fun r W' => r = .returned (.int .u64 V1) ∧ Below W.heap.size W W')) (HP2 : Hid (∀ W, Calls Try.prog 19 #[.int .i64 w, .int .u64 x, .int .u64 y, .int .i64 1, .bool false] W fun r W' => r = .returned (.int .u64 V2) ∧ Below W.heap.size W W')) (HO1 : Hid (∀ W, Calls Try.prog 20 #[.int .i64 w, .int .u64 x] W fun r W' => r = .returned (.agg #[.bool false, .int .i64 K1, .int .i64 X1, .int .u64 S1]) ∧ Below W.heap.size W W')) (HO2 : Hid (∀ W, Calls Try.prog 20 #[.int .i64 w, .int .u64 y] W fun r W' => r = .returned (.agg #[.bool n2, .int .i64 K2, .int .i64 X2, .int .u64 S2]) ∧ Below W.heap.size W W')) (HC : Hid (∀ W, Calls Try.prog 15 #[.int .i64 w, .int .u64 x, .int .u64 y] W fun r W' => r = .returned (.int .i64 1) ∧ Below W.heap.size W W')) (k1 : (K1 != 3) = true) (k2 : (K2 != 3) = true) (h1 : decide (a < b) = false) (h2 : (a == b) = false) (h3 : decide (a < 0) = false) :
    Calls Try.prog 4 #[.int .i64 w, .int .u64 x, .int .u64 y] W fun r W' => r = .returned (.bool true) ∧ Below W.heap.size W W' := by
  go_enter Try.func4, Try.ntmps4
  go_wp2_with fail
  refine (unhide HW _).mono ?_
  rintro _ w1 ⟨rfl, hb⟩
  have HB := hide hb
  clear hb
  go_wp2_with fail
  refine (unhide HM _).mono ?_
  rintro _ w2 ⟨rfl, hb⟩
  have HB := hide (bthen (unhide HB) hb)
  clear hb
  go_wp2_with fail
  refine (unhide HX _).mono ?_
  rintro _ w3 ⟨rfl, hb⟩
  have HB := hide (bthen (unhide HB) hb)
  clear hb
  go_wp2_with fail
  refine (unhide HR1 _).mono ?_
  rintro _ w4 ⟨rfl, hb⟩
  have HB := hide (bthen (unhide HB) hb)
  clear hb
  go_wp2_with fail
  refine (unhide HR2 _).mono ?_
  rintro _ w5 ⟨rfl, hb⟩
  have HB := hide (bthen (unhide HB) hb)
  clear hb
  go_wp2_with fail
  refine (unhide HK _).mono ?_
  rintro _ w6 ⟨rfl, hb⟩
  have HB := hide (bthen (unhide HB) hb)
  clear hb
  go_wp2_with fail
  refine (unhide HP1 _).mono ?_
  rintro _ w7 ⟨rfl, hb⟩
  have HB := hide (bthen (unhide HB) hb)
  clear hb
  go_wp2_with fail
  refine (unhide HP2 _).mono ?_
  rintro _ w8 ⟨rfl, hb⟩
  have HB := hide (bthen (unhide HB) hb)
  clear hb
  go_wp2_with fail
  refine (unhide HO1 _).mono ?_
  rintro _ w9 ⟨rfl, hb⟩
  have HB := hide (bthen (unhide HB) hb)
  clear hb
  go_wp2_with fail
  refine (unhide HO2 _).mono ?_
  rintro _ w10 ⟨rfl, hb⟩
  have HB := hide (bthen (unhide HB) hb)
  have HB := hide (balloc (balloc (unhide HB) (.cells #[.bool false, .int .i64 K1, .int .i64 X1, .int .u64 S1] 32)) (.cells #[.bool n2, .int .i64 K2, .int .i64 X2, .int .u64 S2] 32))
  have H1 := hide (at4_new2a w10 (.bool false) (.int .i64 K1) (.int .i64 X1) (.int .u64 S1) 32 (.cells #[.bool n2, .int .i64 K2, .int .i64 X2, .int .u64 S2] 32))
  have H2 := hide (at4_new2b w10 (.cells #[.bool false, .int .i64 K1, .int .i64 X1, .int .u64 S1] 32) (.bool n2) (.int .i64 K2) (.int .i64 X2) (.int .u64 S2) 32)
  obtain ⟨c0, c1, c2, c3⟩ := unhide H1
  obtain ⟨d0, d1, d2, d3⟩ := unhide H2
  clear hb
  go_wp2_with fail
  refine (unhide HC _).mono ?_
  rintro _ w11 ⟨rfl, hb⟩
  have HB := hide (bthen (unhide HB) hb)
  have H1 := hide ((unhide H1).below hb)
  have H2 := hide ((unhide H2).below hb)
  clear c0 c1 c2 c3 d0 d1 d2 d3
  obtain ⟨c0, c1, c2, c3⟩ := unhide H1
  obtain ⟨d0, d1, d2, d3⟩ := unhide H2
  clear hb
  go_wp2_with fail
  go_ret
  exact ⟨by first | rfl | simp [h3], unhide HB⟩
set_option maxRecDepth 100000 in
set_option maxHeartbeats 2000000 in
theorem picks_gm {w x y V1 V2 X1 S1 K2 X2 S2 K1 a b : Int} {n2 : Bool} (W : World) (HW : Hid (∀ W, Calls Try.prog 7 #[] W fun r W' => r = .returned (.bool true) ∧ Below W.heap.size W W')) (HM : Hid (∀ W, Calls Try.prog 16 #[.int .i64 w, .int .u64 x, .int .u64 y] W fun r W' => r = .returned (.int .u64 V1) ∧ Below W.heap.size W W')) (HX : Hid (∀ W, Calls Try.prog 17 #[.int .i64 w, .int .u64 x, .int .u64 y] W fun r W' => r = .returned (.int .u64 V2) ∧ Below W.heap.size W W')) (HR1 : Hid (∀ W, Calls Try.prog 18 #[.int .i64 w, .int .u64 x] W fun r W' => r = .returned (.tuple #[.int .i64 a, .bool true]) ∧ Below W.heap.size W W')) (HR2 : Hid (∀ W, Calls Try.prog 18 #[.int .i64 w, .int .u64 y] W fun r W' => r = .returned (.tuple #[.int .i64 b, .bool true]) ∧ Below W.heap.size W W')) (HK : Hid (∀ W, Calls Try.prog 14 #[.int .i64 w] W fun r W' => r = .returned (.bool true) ∧ Below W.heap.size W W')) (HP1 : Hid (∀ W, Calls Try.prog 19 #[.int .i64 w, .int .u64 x, .int .u64 y, .int .i64 (-1), .bool true] W fun r W' => r = .returned (.int .u64 V1) ∧ Below W.heap.size W W')) (HP2 : Hid (∀ W, Calls Try.prog 19 #[.int .i64 w, .int .u64 x, .int .u64 y, .int .i64 1, .bool false] W fun r W' => r = .returned (.int .u64 V2) ∧ Below W.heap.size W W')) (HO1 : Hid (∀ W, Calls Try.prog 20 #[.int .i64 w, .int .u64 x] W fun r W' => r = .returned (.agg #[.bool true, .int .i64 K1, .int .i64 X1, .int .u64 S1]) ∧ Below W.heap.size W W')) (HO2 : Hid (∀ W, Calls Try.prog 20 #[.int .i64 w, .int .u64 y] W fun r W' => r = .returned (.agg #[.bool n2, .int .i64 K2, .int .i64 X2, .int .u64 S2]) ∧ Below W.heap.size W W')) (HC : Hid (∀ W, Calls Try.prog 15 #[.int .i64 w, .int .u64 x, .int .u64 y] W fun r W' => r = .returned (.int .i64 1) ∧ Below W.heap.size W W')) (k1 : (K1 != 3) = true) (k2 : (K2 != 3) = true) (h1 : decide (a < b) = false) (h2 : (a == b) = false) (h3 : a < 0) (h4 : (K1 != 0) = true) :
    Calls Try.prog 4 #[.int .i64 w, .int .u64 x, .int .u64 y] W fun r W' => r = .returned (.bool true) ∧ Below W.heap.size W W' := by
  go_enter Try.func4, Try.ntmps4
  go_wp2_with fail
  refine (unhide HW _).mono ?_
  rintro _ w1 ⟨rfl, hb⟩
  have HB := hide hb
  clear hb
  go_wp2_with fail
  refine (unhide HM _).mono ?_
  rintro _ w2 ⟨rfl, hb⟩
  have HB := hide (bthen (unhide HB) hb)
  clear hb
  go_wp2_with fail
  refine (unhide HX _).mono ?_
  rintro _ w3 ⟨rfl, hb⟩
  have HB := hide (bthen (unhide HB) hb)
  clear hb
  go_wp2_with fail
  refine (unhide HR1 _).mono ?_
  rintro _ w4 ⟨rfl, hb⟩
  have HB := hide (bthen (unhide HB) hb)
  clear hb
  go_wp2_with fail
  refine (unhide HR2 _).mono ?_
  rintro _ w5 ⟨rfl, hb⟩
  have HB := hide (bthen (unhide HB) hb)
  clear hb
  go_wp2_with fail
  refine (unhide HK _).mono ?_
  rintro _ w6 ⟨rfl, hb⟩
  have HB := hide (bthen (unhide HB) hb)
  clear hb
  go_wp2_with fail
  refine (unhide HP1 _).mono ?_
  rintro _ w7 ⟨rfl, hb⟩
  have HB := hide (bthen (unhide HB) hb)
  clear hb
  go_wp2_with fail
  refine (unhide HP2 _).mono ?_
  rintro _ w8 ⟨rfl, hb⟩
  have HB := hide (bthen (unhide HB) hb)
  clear hb
  go_wp2_with fail
  refine (unhide HO1 _).mono ?_
  rintro _ w9 ⟨rfl, hb⟩
  have HB := hide (bthen (unhide HB) hb)
  clear hb
  go_wp2_with fail
  refine (unhide HO2 _).mono ?_
  rintro _ w10 ⟨rfl, hb⟩
  have HB := hide (bthen (unhide HB) hb)
  have HB := hide (balloc (balloc (unhide HB) (.cells #[.bool true, .int .i64 K1, .int .i64 X1, .int .u64 S1] 32)) (.cells #[.bool n2, .int .i64 K2, .int .i64 X2, .int .u64 S2] 32))
  have H1 := hide (at4_new2a w10 (.bool true) (.int .i64 K1) (.int .i64 X1) (.int .u64 S1) 32 (.cells #[.bool n2, .int .i64 K2, .int .i64 X2, .int .u64 S2] 32))
  have H2 := hide (at4_new2b w10 (.cells #[.bool true, .int .i64 K1, .int .i64 X1, .int .u64 S1] 32) (.bool n2) (.int .i64 K2) (.int .i64 X2) (.int .u64 S2) 32)
  obtain ⟨c0, c1, c2, c3⟩ := unhide H1
  obtain ⟨d0, d1, d2, d3⟩ := unhide H2
  clear hb
  go_wp2_with fail
  refine (unhide HC _).mono ?_
  rintro _ w11 ⟨rfl, hb⟩
  have HB := hide (bthen (unhide HB) hb)
  have H1 := hide ((unhide H1).below hb)
  have H2 := hide ((unhide H2).below hb)
  clear c0 c1 c2 c3 d0 d1 d2 d3
  obtain ⟨c0, c1, c2, c3⟩ := unhide H1
  obtain ⟨d0, d1, d2, d3⟩ := unhide H2
  clear hb
  go_wp2_with fail
  go_ret
  exact ⟨by first | rfl | simp [h3], unhide HB⟩
set_option maxRecDepth 100000 in
set_option maxHeartbeats 2000000 in
theorem picks_gz {w x y V1 V2 X1 S1 K2 X2 S2 K1 a b : Int} {n2 : Bool} (W : World) (HW : Hid (∀ W, Calls Try.prog 7 #[] W fun r W' => r = .returned (.bool true) ∧ Below W.heap.size W W')) (HM : Hid (∀ W, Calls Try.prog 16 #[.int .i64 w, .int .u64 x, .int .u64 y] W fun r W' => r = .returned (.int .u64 V1) ∧ Below W.heap.size W W')) (HX : Hid (∀ W, Calls Try.prog 17 #[.int .i64 w, .int .u64 x, .int .u64 y] W fun r W' => r = .returned (.int .u64 V2) ∧ Below W.heap.size W W')) (HR1 : Hid (∀ W, Calls Try.prog 18 #[.int .i64 w, .int .u64 x] W fun r W' => r = .returned (.tuple #[.int .i64 a, .bool true]) ∧ Below W.heap.size W W')) (HR2 : Hid (∀ W, Calls Try.prog 18 #[.int .i64 w, .int .u64 y] W fun r W' => r = .returned (.tuple #[.int .i64 b, .bool true]) ∧ Below W.heap.size W W')) (HK : Hid (∀ W, Calls Try.prog 14 #[.int .i64 w] W fun r W' => r = .returned (.bool true) ∧ Below W.heap.size W W')) (HP1 : Hid (∀ W, Calls Try.prog 19 #[.int .i64 w, .int .u64 x, .int .u64 y, .int .i64 (-1), .bool true] W fun r W' => r = .returned (.int .u64 V1) ∧ Below W.heap.size W W')) (HP2 : Hid (∀ W, Calls Try.prog 19 #[.int .i64 w, .int .u64 x, .int .u64 y, .int .i64 1, .bool false] W fun r W' => r = .returned (.int .u64 V2) ∧ Below W.heap.size W W')) (HO1 : Hid (∀ W, Calls Try.prog 20 #[.int .i64 w, .int .u64 x] W fun r W' => r = .returned (.agg #[.bool true, .int .i64 K1, .int .i64 X1, .int .u64 S1]) ∧ Below W.heap.size W W')) (HO2 : Hid (∀ W, Calls Try.prog 20 #[.int .i64 w, .int .u64 y] W fun r W' => r = .returned (.agg #[.bool n2, .int .i64 K2, .int .i64 X2, .int .u64 S2]) ∧ Below W.heap.size W W')) (HC : Hid (∀ W, Calls Try.prog 15 #[.int .i64 w, .int .u64 x, .int .u64 y] W fun r W' => r = .returned (.int .i64 1) ∧ Below W.heap.size W W')) (k1 : (K1 != 3) = true) (k2 : (K2 != 3) = true) (h1 : decide (a < b) = false) (h2 : (a == b) = false) (h3 : decide (a < 0) = false) (h4 : (K1 != 0) = false) :
    Calls Try.prog 4 #[.int .i64 w, .int .u64 x, .int .u64 y] W fun r W' => r = .returned (.bool true) ∧ Below W.heap.size W W' := by
  go_enter Try.func4, Try.ntmps4
  go_wp2_with fail
  refine (unhide HW _).mono ?_
  rintro _ w1 ⟨rfl, hb⟩
  have HB := hide hb
  clear hb
  go_wp2_with fail
  refine (unhide HM _).mono ?_
  rintro _ w2 ⟨rfl, hb⟩
  have HB := hide (bthen (unhide HB) hb)
  clear hb
  go_wp2_with fail
  refine (unhide HX _).mono ?_
  rintro _ w3 ⟨rfl, hb⟩
  have HB := hide (bthen (unhide HB) hb)
  clear hb
  go_wp2_with fail
  refine (unhide HR1 _).mono ?_
  rintro _ w4 ⟨rfl, hb⟩
  have HB := hide (bthen (unhide HB) hb)
  clear hb
  go_wp2_with fail
  refine (unhide HR2 _).mono ?_
  rintro _ w5 ⟨rfl, hb⟩
  have HB := hide (bthen (unhide HB) hb)
  clear hb
  go_wp2_with fail
  refine (unhide HK _).mono ?_
  rintro _ w6 ⟨rfl, hb⟩
  have HB := hide (bthen (unhide HB) hb)
  clear hb
  go_wp2_with fail
  refine (unhide HP1 _).mono ?_
  rintro _ w7 ⟨rfl, hb⟩
  have HB := hide (bthen (unhide HB) hb)
  clear hb
  go_wp2_with fail
  refine (unhide HP2 _).mono ?_
  rintro _ w8 ⟨rfl, hb⟩
  have HB := hide (bthen (unhide HB) hb)
  clear hb
  go_wp2_with fail
  refine (unhide HO1 _).mono ?_
  rintro _ w9 ⟨rfl, hb⟩
  have HB := hide (bthen (unhide HB) hb)
  clear hb
  go_wp2_with fail
  refine (unhide HO2 _).mono ?_
  rintro _ w10 ⟨rfl, hb⟩
  have HB := hide (bthen (unhide HB) hb)
  have HB := hide (balloc (balloc (unhide HB) (.cells #[.bool true, .int .i64 K1, .int .i64 X1, .int .u64 S1] 32)) (.cells #[.bool n2, .int .i64 K2, .int .i64 X2, .int .u64 S2] 32))
  have H1 := hide (at4_new2a w10 (.bool true) (.int .i64 K1) (.int .i64 X1) (.int .u64 S1) 32 (.cells #[.bool n2, .int .i64 K2, .int .i64 X2, .int .u64 S2] 32))
  have H2 := hide (at4_new2b w10 (.cells #[.bool true, .int .i64 K1, .int .i64 X1, .int .u64 S1] 32) (.bool n2) (.int .i64 K2) (.int .i64 X2) (.int .u64 S2) 32)
  obtain ⟨c0, c1, c2, c3⟩ := unhide H1
  obtain ⟨d0, d1, d2, d3⟩ := unhide H2
  clear hb
  go_wp2_with fail
  refine (unhide HC _).mono ?_
  rintro _ w11 ⟨rfl, hb⟩
  have HB := hide (bthen (unhide HB) hb)
  have H1 := hide ((unhide H1).below hb)
  have H2 := hide ((unhide H2).below hb)
  clear c0 c1 c2 c3 d0 d1 d2 d3
  obtain ⟨c0, c1, c2, c3⟩ := unhide H1
  obtain ⟨d0, d1, d2, d3⟩ := unhide H2
  clear hb
  go_wp2_with fail
  go_ret
  exact ⟨by first | rfl | simp [h3], unhide HB⟩

end Go.Proofs.Ytefpknkbfmjajaa
namespace Go.Proofs.Ytefpknkbfmjajaa
open Go.RowKit
open Go.Proofs.Ytefpknkbfmjajaa.W

/-- A key: twice the signed code, less one with a sign. -/
def kk (P Q x : Int) : Int := 2 * sc P Q x - (if sg P Q x then 1 else 0)
theorem kk_same {w e f P Q b x y : Int} (k : Kd w e f P Q b) (hx : oK P Q x ≠ 3) (hy : oK P Q y ≠ 3) (h : kk P Q x = kk P Q y) : cutN f P Q x = cutN f P Q y := by
  unfold kk at h
  have h1 : sc P Q x = sc P Q y ∧ sg P Q x = sg P Q y := by
    cases hn : sg P Q x <;> cases hm : sg P Q y <;> rw [hn, hm] at h <;> simp at h <;> first | exact ⟨by omega, rfl⟩ | omega
  rcases same_bits k hx hy h1.1 with h2 | h2 | h2
  · exact h2.2
  · rw [h2.1, h2.2.1] at h1; simp at h1
  · rw [h2.1, h2.2.1] at h1; simp at h1
theorem kk_lt {P Q x y : Int} (h : sc P Q x < sc P Q y) : kk P Q x < kk P Q y := by
  unfold kk
  cases sg P Q x <;> cases sg P Q y <;> simp <;> omega
theorem kk_cut {w e f P Q b : Int} (k : Kd w e f P Q b) (x : Int) : kk P Q (cutN f P Q x) = kk P Q x := by
  obtain ⟨-, -, -, a1, a2, -⟩ := cut_same k x
  unfold kk
  rw [a1, a2]

/-- What is picked of two numbers: one of them, cut off, and its key. -/
theorem min_key {w e f P Q b x y : Int} (k : Kd w e f P Q b) (hx : oK P Q x ≠ 3) (hy : oK P Q y ≠ 3) :
    (kk P Q x ≤ kk P Q y → pickB f P Q (-1) true x y = cutN f P Q x) ∧ (kk P Q y ≤ kk P Q x → pickB f P Q (-1) true x y = cutN f P Q y) := by
  have hs := fun h => kk_same k hx hy h
  unfold pickB
  rcases cmpB_ways P Q x y with ⟨-, -, h⟩ | ⟨-, -, ⟨e1, -, h⟩ | ⟨e1, -, h⟩ | ⟨e1, -, h⟩⟩
  · omega
  · rw [e1, if_neg (by omega), if_pos (Or.inl rfl)]
    have := kk_lt h
    exact ⟨fun _ => rfl, fun _ => by omega⟩
  · rw [e1, if_neg (by omega)]
    unfold kk at *
    cases hn : sg P Q x <;> cases hm : sg P Q y <;> rw [hn, hm] at hs <;> simp at hs ⊢ <;> first | (have := hs h; exact ⟨fun _ => this.symm, fun _ => trivial⟩) | (have := hs h; exact ⟨fun _ => trivial, fun _ => this⟩) | omega | (refine ⟨fun _ => ?_, fun _ => ?_⟩ <;> first | rfl | omega | exact hs h | exact (hs h).symm)
  · rw [e1, if_neg (by omega), if_neg (by omega)]
    have := kk_lt h
    exact ⟨fun _ => by omega, fun _ => rfl⟩
theorem max_key {w e f P Q b x y : Int} (k : Kd w e f P Q b) (hx : oK P Q x ≠ 3) (hy : oK P Q y ≠ 3) :
    (kk P Q y ≤ kk P Q x → pickB f P Q 1 false x y = cutN f P Q x) ∧ (kk P Q x ≤ kk P Q y → pickB f P Q 1 false x y = cutN f P Q y) := by
  have hs := fun h => kk_same k hx hy h
  unfold pickB
  rcases cmpB_ways P Q x y with ⟨-, -, h⟩ | ⟨-, -, ⟨e1, -, h⟩ | ⟨e1, -, h⟩ | ⟨e1, -, h⟩⟩
  · omega
  · rw [e1, if_neg (by omega), if_neg (by omega)]
    have := kk_lt h
    exact ⟨fun _ => by omega, fun _ => rfl⟩
  · rw [e1, if_neg (by omega)]
    unfold kk at *
    cases hn : sg P Q x <;> cases hm : sg P Q y <;> rw [hn, hm] at hs <;> simp at hs ⊢ <;> first | (have := hs h; exact ⟨fun _ => this.symm, fun _ => trivial⟩) | (have := hs h; exact ⟨fun _ => trivial, fun _ => this⟩) | omega | (refine ⟨fun _ => ?_, fun _ => ?_⟩ <;> first | rfl | omega | exact hs h | exact (hs h).symm)
  · rw [e1, if_neg (by omega), if_pos (Or.inl rfl)]
    have := kk_lt h
    exact ⟨fun _ => rfl, fun _ => by omega⟩
theorem pick_nan {f P Q t x y : Int} {n : Bool} (h : oK P Q x = 3 ∨ oK P Q y = 3) : pickB f P Q t n x y = nanB f P Q := by
  unfold pickB
  rw [if_pos (cmpB_nan h)]
theorem pick_in {w e f P Q b : Int} (k : Kd w e f P Q b) (t : Int) (n : Bool) (x y : Int) : 0 ≤ pickB f P Q t n x y ∧ pickB f P Q t n x y < 18446744073709551616 := by
  obtain ⟨a0, a1, -⟩ := nan_facts k
  obtain ⟨b0, b1, -⟩ := cut_same k x
  obtain ⟨c0, c1, -⟩ := cut_same k y
  unfold pickB
  split
  · exact ⟨a0, a1⟩
  · split
    · exact ⟨b0, b1⟩
    · exact ⟨c0, c1⟩

theorem min_num {w e f P Q b x y : Int} (k : Kd w e f P Q b) (hx : oK P Q x ≠ 3) (hy : oK P Q y ≠ 3) :
    oK P Q (pickB f P Q (-1) true x y) ≠ 3 ∧ kk P Q (pickB f P Q (-1) true x y) = min (kk P Q x) (kk P Q y) ∧ cutN f P Q (pickB f P Q (-1) true x y) = pickB f P Q (-1) true x y := by
  obtain ⟨a1, a2⟩ := min_key k hx hy
  obtain ⟨-, -, b1, -, -, b2⟩ := cut_same k x
  obtain ⟨-, -, c1, -, -, c2⟩ := cut_same k y
  by_cases h : kk P Q x ≤ kk P Q y
  · rw [a1 h, kk_cut k, b1, b2]
    exact ⟨hx, by omega, rfl⟩
  · rw [a2 (by omega), kk_cut k, c1, c2]
    exact ⟨hy, by omega, rfl⟩
theorem max_num {w e f P Q b x y : Int} (k : Kd w e f P Q b) (hx : oK P Q x ≠ 3) (hy : oK P Q y ≠ 3) :
    oK P Q (pickB f P Q 1 false x y) ≠ 3 ∧ kk P Q (pickB f P Q 1 false x y) = max (kk P Q x) (kk P Q y) ∧ cutN f P Q (pickB f P Q 1 false x y) = pickB f P Q 1 false x y := by
  obtain ⟨a1, a2⟩ := max_key k hx hy
  obtain ⟨-, -, b1, -, -, b2⟩ := cut_same k x
  obtain ⟨-, -, c1, -, -, c2⟩ := cut_same k y
  by_cases h : kk P Q x ≤ kk P Q y
  · rw [a2 h, kk_cut k, c1, c2]
    exact ⟨hy, by omega, rfl⟩
  · rw [a1 (by omega), kk_cut k, b1, b2]
    exact ⟨hx, by omega, rfl⟩

theorem min_comm {w e f P Q b : Int} (k : Kd w e f P Q b) (x y : Int) : pickB f P Q (-1) true y x = pickB f P Q (-1) true x y := by
  by_cases h : oK P Q x = 3 ∨ oK P Q y = 3
  · rw [pick_nan h, pick_nan h.symm]
  · have hx : oK P Q x ≠ 3 := fun hh => h (Or.inl hh)
    have hy : oK P Q y ≠ 3 := fun hh => h (Or.inr hh)
    obtain ⟨a1, a2, a3⟩ := min_num k hx hy
    obtain ⟨b1, b2, b3⟩ := min_num k hy hx
    rw [← a3, ← b3]
    exact kk_same k b1 a1 (by omega)
theorem max_comm {w e f P Q b : Int} (k : Kd w e f P Q b) (x y : Int) : pickB f P Q 1 false y x = pickB f P Q 1 false x y := by
  by_cases h : oK P Q x = 3 ∨ oK P Q y = 3
  · rw [pick_nan h, pick_nan h.symm]
  · have hx : oK P Q x ≠ 3 := fun hh => h (Or.inl hh)
    have hy : oK P Q y ≠ 3 := fun hh => h (Or.inr hh)
    obtain ⟨a1, a2, a3⟩ := max_num k hx hy
    obtain ⟨b1, b2, b3⟩ := max_num k hy hx
    rw [← a3, ← b3]
    exact kk_same k b1 a1 (by omega)
theorem assoc_nan {w e f P Q b x y z : Int} (k : Kd w e f P Q b) (t : Int) (n : Bool) (h : oK P Q x = 3 ∨ oK P Q y = 3 ∨ oK P Q z = 3) : pickB f P Q t n (pickB f P Q t n x y) z = nanB f P Q ∧ pickB f P Q t n x (pickB f P Q t n y z) = nanB f P Q := by
  obtain ⟨-, -, hn, -⟩ := nan_facts k
  constructor
  · by_cases h1 : oK P Q x = 3 ∨ oK P Q y = 3
    · rw [pick_nan h1]
      exact pick_nan (Or.inl hn)
    · exact pick_nan (Or.inr (by omega))
  · by_cases h1 : oK P Q y = 3 ∨ oK P Q z = 3
    · rw [pick_nan h1]
      exact pick_nan (Or.inr hn)
    · exact pick_nan (Or.inl (by omega))
theorem min_assoc {w e f P Q b : Int} (k : Kd w e f P Q b) (x y z : Int) : pickB f P Q (-1) true (pickB f P Q (-1) true x y) z = pickB f P Q (-1) true x (pickB f P Q (-1) true y z) := by
  by_cases h : oK P Q x = 3 ∨ oK P Q y = 3 ∨ oK P Q z = 3
  · obtain ⟨h1, h2⟩ := assoc_nan k (-1) true h
    rw [h1, h2]
  · have hx : oK P Q x ≠ 3 := fun hh => h (Or.inl hh)
    have hy : oK P Q y ≠ 3 := fun hh => h (Or.inr (Or.inl hh))
    have hz : oK P Q z ≠ 3 := fun hh => h (Or.inr (Or.inr hh))
    obtain ⟨a1, a2, -⟩ := min_num k hx hy
    obtain ⟨b1, b2, -⟩ := min_num k hy hz
    obtain ⟨c1, c2, c3⟩ := min_num k a1 hz
    obtain ⟨d1, d2, d3⟩ := min_num k hx b1
    rw [← c3, ← d3]
    exact kk_same k c1 d1 (by omega)
theorem max_assoc {w e f P Q b : Int} (k : Kd w e f P Q b) (x y z : Int) : pickB f P Q 1 false (pickB f P Q 1 false x y) z = pickB f P Q 1 false x (pickB f P Q 1 false y z) := by
  by_cases h : oK P Q x = 3 ∨ oK P Q y = 3 ∨ oK P Q z = 3
  · obtain ⟨h1, h2⟩ := assoc_nan k 1 false h
    rw [h1, h2]
  · have hx : oK P Q x ≠ 3 := fun hh => h (Or.inl hh)
    have hy : oK P Q y ≠ 3 := fun hh => h (Or.inr (Or.inl hh))
    have hz : oK P Q z ≠ 3 := fun hh => h (Or.inr (Or.inr hh))
    obtain ⟨a1, a2, -⟩ := max_num k hx hy
    obtain ⟨b1, b2, -⟩ := max_num k hy hz
    obtain ⟨c1, c2, c3⟩ := max_num k a1 hz
    obtain ⟨d1, d2, d3⟩ := max_num k hx b1
    rw [← c3, ← d3]
    exact kk_same k c1 d1 (by omega)

end Go.Proofs.Ytefpknkbfmjajaa
namespace Go.Proofs.Ytefpknkbfmjajaa
open Go.RowKit
open Go.Proofs.Ytefpknkbfmjajaa.W

set_option maxRecDepth 100000 in
set_option maxHeartbeats 2000000 in
theorem keeps_no {w x y : Int} (W : World) (g1 : (w != 32) = true) (g2 : (w != 64) = true) (HW : Hid (∀ W, Calls Try.prog 7 #[] W fun r W' => r = .returned (.bool true) ∧ Below W.heap.size W W')) :
    Calls Try.prog 5 #[.int .i64 w, .int .u64 x, .int .u64 y] W fun r W' => r = .returned (.bool true) ∧ Below W.heap.size W W' := by
  go_enter Try.func5, Try.ntmps5
  go_wp2_with fail
  refine (unhide HW _).mono ?_
  rintro _ w1 ⟨rfl, hb⟩
  have HB := hide hb
  clear hb
  go_wp2_with fail
  go_ret
  exact ⟨rfl, unhide HB⟩
set_option maxRecDepth 100000 in
set_option maxHeartbeats 2000000 in
theorem keeps_na32 {w x y u : Int} (W : World) (g1 : (w != 32) = false) (HW : Hid (∀ W, Calls Try.prog 7 #[] W fun r W' => r = .returned (.bool true) ∧ Below W.heap.size W W')) (HM : Hid (∀ W, Calls Try.prog 16 #[.int .i64 w, .int .u64 x, .int .u64 y] W fun r W' => r = .returned (.int .u64 u) ∧ Below W.heap.size W W')) (HX : Hid (∀ W, Calls Try.prog 17 #[.int .i64 w, .int .u64 x, .int .u64 y] W fun r W' => r = .returned (.int .u64 u) ∧ Below W.heap.size W W')) (HM2 : Hid (∀ W, Calls Try.prog 16 #[.int .i64 w, .int .u64 y, .int .u64 x] W fun r W' => r = .returned (.int .u64 u) ∧ Below W.heap.size W W')) (HX2 : Hid (∀ W, Calls Try.prog 17 #[.int .i64 w, .int .u64 y, .int .u64 x] W fun r W' => r = .returned (.int .u64 u) ∧ Below W.heap.size W W')) (HL : Hid (∀ W, Calls Try.prog 10 #[.int .i64 w, .int .u64 x, .int .u64 y] W fun r W' => r = .returned (.bool false) ∧ Below W.heap.size W W')) (HE : Hid (∀ W, Calls Try.prog 8 #[.int .i64 w, .int .u64 x, .int .u64 y] W fun r W' => r = .returned (.bool false) ∧ Below W.heap.size W W')) (HG : Hid (∀ W, Calls Try.prog 11 #[.int .i64 w, .int .u64 x, .int .u64 y] W fun r W' => r = .returned (.bool false) ∧ Below W.heap.size W W')) (HI1 : Hid (∀ W, Calls Try.prog 21 #[.int .i64 w, .int .u64 x] W fun r W' => r = .returned (.bool true) ∧ Below W.heap.size W W')) (HN : Hid (∀ W, Calls Try.prog 22 #[.int .i64 w] W fun r W' => r = .returned (.int .u64 u) ∧ Below W.heap.size W W')) :
    Calls Try.prog 5 #[.int .i64 w, .int .u64 x, .int .u64 y] W fun r W' => r = .returned (.bool true) ∧ Below W.heap.size W W' := by
  go_enter Try.func5, Try.ntmps5
  go_wp2_with fail
  refine (unhide HW _).mono ?_
  rintro _ w1 ⟨rfl, hb⟩
  have HB := hide hb
  clear hb
  go_wp2_with fail
  refine (unhide HM _).mono ?_
  rintro _ w2 ⟨rfl, hb⟩
  have HB := hide (bthen (unhide HB) hb)
  clear hb
  go_wp2_with fail
  refine (unhide HX _).mono ?_
  rintro _ w3 ⟨rfl, hb⟩
  have HB := hide (bthen (unhide HB) hb)
  clear hb
  go_wp2_with fail
  refine (unhide HM2 _).mono ?_
  rintro _ w4 ⟨rfl, hb⟩
  have HB := hide (bthen (unhide HB) hb)
  clear hb
  go_wp2_with fail
  refine (unhide HX2 _).mono ?_
  rintro _ w5 ⟨rfl, hb⟩
  have HB := hide (bthen (unhide HB) hb)
  clear hb
  go_wp2_with fail
  refine (unhide HL _).mono ?_
  rintro _ w6 ⟨rfl, hb⟩
  have HB := hide (bthen (unhide HB) hb)
  clear hb
  go_wp2_with fail
  refine (unhide HE _).mono ?_
  rintro _ w7 ⟨rfl, hb⟩
  have HB := hide (bthen (unhide HB) hb)
  clear hb
  go_wp2_with fail
  refine (unhide HG _).mono ?_
  rintro _ w8 ⟨rfl, hb⟩
  have HB := hide (bthen (unhide HB) hb)
  clear hb
  go_wp2_with fail
  refine wp_loop_rounds 4 ?_
  rw [rounds_succ]
  go_wp2_with fail
  rw [rounds_succ]
  go_wp2_with fail
  rw [rounds_succ]
  go_wp2_with fail
  rw [rounds_succ]
  go_wp2_with fail
  refine (unhide HI1 _).mono ?_
  rintro _ w9 ⟨rfl, hb⟩
  have HB := hide (bthen (balloc (unhide HB) _) hb)
  clear hb
  go_wp2_with fail
  refine (unhide HN _).mono ?_
  rintro _ w10 ⟨rfl, hb⟩
  have HB := hide (bthen (unhide HB) hb)
  clear hb
  go_wp2_with fail
  go_ret
  exact ⟨by simp, unhide HB⟩
set_option maxRecDepth 100000 in
set_option maxHeartbeats 2000000 in
theorem keeps_nb32 {w x y u : Int} (W : World) (g1 : (w != 32) = false) (HW : Hid (∀ W, Calls Try.prog 7 #[] W fun r W' => r = .returned (.bool true) ∧ Below W.heap.size W W')) (HM : Hid (∀ W, Calls Try.prog 16 #[.int .i64 w, .int .u64 x, .int .u64 y] W fun r W' => r = .returned (.int .u64 u) ∧ Below W.heap.size W W')) (HX : Hid (∀ W, Calls Try.prog 17 #[.int .i64 w, .int .u64 x, .int .u64 y] W fun r W' => r = .returned (.int .u64 u) ∧ Below W.heap.size W W')) (HM2 : Hid (∀ W, Calls Try.prog 16 #[.int .i64 w, .int .u64 y, .int .u64 x] W fun r W' => r = .returned (.int .u64 u) ∧ Below W.heap.size W W')) (HX2 : Hid (∀ W, Calls Try.prog 17 #[.int .i64 w, .int .u64 y, .int .u64 x] W fun r W' => r = .returned (.int .u64 u) ∧ Below W.heap.size W W')) (HL : Hid (∀ W, Calls Try.prog 10 #[.int .i64 w, .int .u64 x, .int .u64 y] W fun r W' => r = .returned (.bool false) ∧ Below W.heap.size W W')) (HE : Hid (∀ W, Calls Try.prog 8 #[.int .i64 w, .int .u64 x, .int .u64 y] W fun r W' => r = .returned (.bool false) ∧ Below W.heap.size W W')) (HG : Hid (∀ W, Calls Try.prog 11 #[.int .i64 w, .int .u64 x, .int .u64 y] W fun r W' => r = .returned (.bool false) ∧ Below W.heap.size W W')) (HI1 : Hid (∀ W, Calls Try.prog 21 #[.int .i64 w, .int .u64 x] W fun r W' => r = .returned (.bool false) ∧ Below W.heap.size W W')) (HI2 : Hid (∀ W, Calls Try.prog 21 #[.int .i64 w, .int .u64 y] W fun r W' => r = .returned (.bool true) ∧ Below W.heap.size W W')) (HN : Hid (∀ W, Calls Try.prog 22 #[.int .i64 w] W fun r W' => r = .returned (.int .u64 u) ∧ Below W.heap.size W W')) :
    Calls Try.prog 5 #[.int .i64 w, .int .u64 x, .int .u64 y] W fun r W' => r = .returned (.bool true) ∧ Below W.heap.size W W' := by
  go_enter Try.func5, Try.ntmps5
  go_wp2_with fail
  refine (unhide HW _).mono ?_
  rintro _ w1 ⟨rfl, hb⟩
  have HB := hide hb
  clear hb
  go_wp2_with fail
  refine (unhide HM _).mono ?_
  rintro _ w2 ⟨rfl, hb⟩
  have HB := hide (bthen (unhide HB) hb)
  clear hb
  go_wp2_with fail
  refine (unhide HX _).mono ?_
  rintro _ w3 ⟨rfl, hb⟩
  have HB := hide (bthen (unhide HB) hb)
  clear hb
  go_wp2_with fail
  refine (unhide HM2 _).mono ?_
  rintro _ w4 ⟨rfl, hb⟩
  have HB := hide (bthen (unhide HB) hb)
  clear hb
  go_wp2_with fail
  refine (unhide HX2 _).mono ?_
  rintro _ w5 ⟨rfl, hb⟩
  have HB := hide (bthen (unhide HB) hb)
  clear hb
  go_wp2_with fail
  refine (unhide HL _).mono ?_
  rintro _ w6 ⟨rfl, hb⟩
  have HB := hide (bthen (unhide HB) hb)
  clear hb
  go_wp2_with fail
  refine (unhide HE _).mono ?_
  rintro _ w7 ⟨rfl, hb⟩
  have HB := hide (bthen (unhide HB) hb)
  clear hb
  go_wp2_with fail
  refine (unhide HG _).mono ?_
  rintro _ w8 ⟨rfl, hb⟩
  have HB := hide (bthen (unhide HB) hb)
  clear hb
  go_wp2_with fail
  refine wp_loop_rounds 4 ?_
  rw [rounds_succ]
  go_wp2_with fail
  rw [rounds_succ]
  go_wp2_with fail
  rw [rounds_succ]
  go_wp2_with fail
  rw [rounds_succ]
  go_wp2_with fail
  refine (unhide HI1 _).mono ?_
  rintro _ w9 ⟨rfl, hb⟩
  have HB := hide (bthen (balloc (unhide HB) _) hb)
  clear hb
  go_wp2_with fail
  refine (unhide HI2 _).mono ?_
  rintro _ w10 ⟨rfl, hb⟩
  have HB := hide (bthen (unhide HB) hb)
  clear hb
  go_wp2_with fail
  refine (unhide HN _).mono ?_
  rintro _ w11 ⟨rfl, hb⟩
  have HB := hide (bthen (unhide HB) hb)
  clear hb
  go_wp2_with fail
  go_ret
  exact ⟨by simp, unhide HB⟩

end Go.Proofs.Ytefpknkbfmjajaa
namespace Go.Proofs.Ytefpknkbfmjajaa
open Go.RowKit
open Go.Proofs.Ytefpknkbfmjajaa.W

set_option maxRecDepth 100000 in
set_option maxHeartbeats 2000000 in
theorem keeps_na64 {w x y u : Int} (W : World) (g1 : (w != 32) = true) (g2 : (w != 64) = false) (HW : Hid (∀ W, Calls Try.prog 7 #[] W fun r W' => r = .returned (.bool true) ∧ Below W.heap.size W W')) (HM : Hid (∀ W, Calls Try.prog 16 #[.int .i64 w, .int .u64 x, .int .u64 y] W fun r W' => r = .returned (.int .u64 u) ∧ Below W.heap.size W W')) (HX : Hid (∀ W, Calls Try.prog 17 #[.int .i64 w, .int .u64 x, .int .u64 y] W fun r W' => r = .returned (.int .u64 u) ∧ Below W.heap.size W W')) (HM2 : Hid (∀ W, Calls Try.prog 16 #[.int .i64 w, .int .u64 y, .int .u64 x] W fun r W' => r = .returned (.int .u64 u) ∧ Below W.heap.size W W')) (HX2 : Hid (∀ W, Calls Try.prog 17 #[.int .i64 w, .int .u64 y, .int .u64 x] W fun r W' => r = .returned (.int .u64 u) ∧ Below W.heap.size W W')) (HL : Hid (∀ W, Calls Try.prog 10 #[.int .i64 w, .int .u64 x, .int .u64 y] W fun r W' => r = .returned (.bool false) ∧ Below W.heap.size W W')) (HE : Hid (∀ W, Calls Try.prog 8 #[.int .i64 w, .int .u64 x, .int .u64 y] W fun r W' => r = .returned (.bool false) ∧ Below W.heap.size W W')) (HG : Hid (∀ W, Calls Try.prog 11 #[.int .i64 w, .int .u64 x, .int .u64 y] W fun r W' => r = .returned (.bool false) ∧ Below W.heap.size W W')) (HI1 : Hid (∀ W, Calls Try.prog 21 #[.int .i64 w, .int .u64 x] W fun r W' => r = .returned (.bool true) ∧ Below W.heap.size W W')) (HN : Hid (∀ W, Calls Try.prog 22 #[.int .i64 w] W fun r W' => r = .returned (.int .u64 u) ∧ Below W.heap.size W W')) :
    Calls Try.prog 5 #[.int .i64 w, .int .u64 x, .int .u64 y] W fun r W' => r = .returned (.bool true) ∧ Below W.heap.size W W' := by
  go_enter Try.func5, Try.ntmps5
  go_wp2_with fail
  refine (unhide HW _).mono ?_
  rintro _ w1 ⟨rfl, hb⟩
  have HB := hide hb
  clear hb
  go_wp2_with fail
  refine (unhide HM _).mono ?_
  rintro _ w2 ⟨rfl, hb⟩
  have HB := hide (bthen (unhide HB) hb)
  clear hb
  go_wp2_with fail
  refine (unhide HX _).mono ?_
  rintro _ w3 ⟨rfl, hb⟩
  have HB := hide (bthen (unhide HB) hb)
  clear hb
  go_wp2_with fail
  refine (unhide HM2 _).mono ?_
  rintro _ w4 ⟨rfl, hb⟩
  have HB := hide (bthen (unhide HB) hb)
  clear hb
  go_wp2_with fail
  refine (unhide HX2 _).mono ?_
  rintro _ w5 ⟨rfl, hb⟩
  have HB := hide (bthen (unhide HB) hb)
  clear hb
  go_wp2_with fail
  refine (unhide HL _).mono ?_
  rintro _ w6 ⟨rfl, hb⟩
  have HB := hide (bthen (unhide HB) hb)
  clear hb
  go_wp2_with fail
  refine (unhide HE _).mono ?_
  rintro _ w7 ⟨rfl, hb⟩
  have HB := hide (bthen (unhide HB) hb)
  clear hb
  go_wp2_with fail
  refine (unhide HG _).mono ?_
  rintro _ w8 ⟨rfl, hb⟩
  have HB := hide (bthen (unhide HB) hb)
  clear hb
  go_wp2_with fail
  refine wp_loop_rounds 4 ?_
  rw [rounds_succ]
  go_wp2_with fail
  rw [rounds_succ]
  go_wp2_with fail
  rw [rounds_succ]
  go_wp2_with fail
  rw [rounds_succ]
  go_wp2_with fail
  refine (unhide HI1 _).mono ?_
  rintro _ w9 ⟨rfl, hb⟩
  have HB := hide (bthen (balloc (unhide HB) _) hb)
  clear hb
  go_wp2_with fail
  refine (unhide HN _).mono ?_
  rintro _ w10 ⟨rfl, hb⟩
  have HB := hide (bthen (unhide HB) hb)
  clear hb
  go_wp2_with fail
  go_ret
  exact ⟨by simp, unhide HB⟩
set_option maxRecDepth 100000 in
set_option maxHeartbeats 2000000 in
theorem keeps_nb64 {w x y u : Int} (W : World) (g1 : (w != 32) = true) (g2 : (w != 64) = false) (HW : Hid (∀ W, Calls Try.prog 7 #[] W fun r W' => r = .returned (.bool true) ∧ Below W.heap.size W W')) (HM : Hid (∀ W, Calls Try.prog 16 #[.int .i64 w, .int .u64 x, .int .u64 y] W fun r W' => r = .returned (.int .u64 u) ∧ Below W.heap.size W W')) (HX : Hid (∀ W, Calls Try.prog 17 #[.int .i64 w, .int .u64 x, .int .u64 y] W fun r W' => r = .returned (.int .u64 u) ∧ Below W.heap.size W W')) (HM2 : Hid (∀ W, Calls Try.prog 16 #[.int .i64 w, .int .u64 y, .int .u64 x] W fun r W' => r = .returned (.int .u64 u) ∧ Below W.heap.size W W')) (HX2 : Hid (∀ W, Calls Try.prog 17 #[.int .i64 w, .int .u64 y, .int .u64 x] W fun r W' => r = .returned (.int .u64 u) ∧ Below W.heap.size W W')) (HL : Hid (∀ W, Calls Try.prog 10 #[.int .i64 w, .int .u64 x, .int .u64 y] W fun r W' => r = .returned (.bool false) ∧ Below W.heap.size W W')) (HE : Hid (∀ W, Calls Try.prog 8 #[.int .i64 w, .int .u64 x, .int .u64 y] W fun r W' => r = .returned (.bool false) ∧ Below W.heap.size W W')) (HG : Hid (∀ W, Calls Try.prog 11 #[.int .i64 w, .int .u64 x, .int .u64 y] W fun r W' => r = .returned (.bool false) ∧ Below W.heap.size W W')) (HI1 : Hid (∀ W, Calls Try.prog 21 #[.int .i64 w, .int .u64 x] W fun r W' => r = .returned (.bool false) ∧ Below W.heap.size W W')) (HI2 : Hid (∀ W, Calls Try.prog 21 #[.int .i64 w, .int .u64 y] W fun r W' => r = .returned (.bool true) ∧ Below W.heap.size W W')) (HN : Hid (∀ W, Calls Try.prog 22 #[.int .i64 w] W fun r W' => r = .returned (.int .u64 u) ∧ Below W.heap.size W W')) :
    Calls Try.prog 5 #[.int .i64 w, .int .u64 x, .int .u64 y] W fun r W' => r = .returned (.bool true) ∧ Below W.heap.size W W' := by
  go_enter Try.func5, Try.ntmps5
  go_wp2_with fail
  refine (unhide HW _).mono ?_
  rintro _ w1 ⟨rfl, hb⟩
  have HB := hide hb
  clear hb
  go_wp2_with fail
  refine (unhide HM _).mono ?_
  rintro _ w2 ⟨rfl, hb⟩
  have HB := hide (bthen (unhide HB) hb)
  clear hb
  go_wp2_with fail
  refine (unhide HX _).mono ?_
  rintro _ w3 ⟨rfl, hb⟩
  have HB := hide (bthen (unhide HB) hb)
  clear hb
  go_wp2_with fail
  refine (unhide HM2 _).mono ?_
  rintro _ w4 ⟨rfl, hb⟩
  have HB := hide (bthen (unhide HB) hb)
  clear hb
  go_wp2_with fail
  refine (unhide HX2 _).mono ?_
  rintro _ w5 ⟨rfl, hb⟩
  have HB := hide (bthen (unhide HB) hb)
  clear hb
  go_wp2_with fail
  refine (unhide HL _).mono ?_
  rintro _ w6 ⟨rfl, hb⟩
  have HB := hide (bthen (unhide HB) hb)
  clear hb
  go_wp2_with fail
  refine (unhide HE _).mono ?_
  rintro _ w7 ⟨rfl, hb⟩
  have HB := hide (bthen (unhide HB) hb)
  clear hb
  go_wp2_with fail
  refine (unhide HG _).mono ?_
  rintro _ w8 ⟨rfl, hb⟩
  have HB := hide (bthen (unhide HB) hb)
  clear hb
  go_wp2_with fail
  refine wp_loop_rounds 4 ?_
  rw [rounds_succ]
  go_wp2_with fail
  rw [rounds_succ]
  go_wp2_with fail
  rw [rounds_succ]
  go_wp2_with fail
  rw [rounds_succ]
  go_wp2_with fail
  refine (unhide HI1 _).mono ?_
  rintro _ w9 ⟨rfl, hb⟩
  have HB := hide (bthen (balloc (unhide HB) _) hb)
  clear hb
  go_wp2_with fail
  refine (unhide HI2 _).mono ?_
  rintro _ w10 ⟨rfl, hb⟩
  have HB := hide (bthen (unhide HB) hb)
  clear hb
  go_wp2_with fail
  refine (unhide HN _).mono ?_
  rintro _ w11 ⟨rfl, hb⟩
  have HB := hide (bthen (unhide HB) hb)
  clear hb
  go_wp2_with fail
  go_ret
  exact ⟨by simp, unhide HB⟩

end Go.Proofs.Ytefpknkbfmjajaa
