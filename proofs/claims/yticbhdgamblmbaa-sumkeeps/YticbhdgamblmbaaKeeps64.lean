/- The statement SumKeeps: its walks, of 64 bits. -/
import Derived.Test.YticbhdgamblmbaaAdds
namespace Go.Proofs.Yticbhdgamblmbaa
open Go.RowKit

set_option maxRecDepth 100000 in
set_option maxHeartbeats 4000000 in
theorem keeps_n64 {w x y Nn X S : Int} {n : Bool} (W : World) (g1 : (w != 32) = true) (g2 : (w != 64) = false) (HW : Hid (∀ W, Calls Try.prog 8 #[] W fun r W' => r = .returned (.bool true) ∧ Below W.heap.size W W')) (HA1 : Hid (∀ W, Calls Try.prog 9 #[.int .i64 w, .int .u64 x, .int .u64 y] W fun r W' => r = .returned (.int .u64 Nn) ∧ Below W.heap.size W W')) (HA2 : Hid (∀ W, Calls Try.prog 9 #[.int .i64 w, .int .u64 y, .int .u64 x] W fun r W' => r = .returned (.int .u64 Nn) ∧ Below W.heap.size W W')) (HT : Hid (∀ W, Calls Try.prog 15 #[.int .i64 w, .int .u64 Nn] W fun r W' => r = .returned (.bool true) ∧ Below W.heap.size W W')) (HN : Hid (∀ W, Calls Try.prog 16 #[.int .i64 w] W fun r W' => r = .returned (.int .u64 Nn) ∧ Below W.heap.size W W')) (HC : Hid (∀ W, Calls Try.prog 17 #[.int .i64 w, .int .u64 Nn] W fun r W' => r = .returned (.int .u64 Nn) ∧ Below W.heap.size W W')) (HO : Hid (∀ W, Calls Try.prog 18 #[.int .i64 w, .int .u64 x] W fun r W' => r = .returned (.agg #[.bool n, .int .i64 3, .int .i64 X, .int .u64 S]) ∧ Below W.heap.size W W')) (HS : Hid (∀ W, Calls Try.prog 10 #[.int .i64 w, .int .u64 y, .int .u64 x] W fun r W' => r = .returned (.int .u64 Nn) ∧ Below W.heap.size W W')) :
    Calls Try.prog 5 #[.int .i64 w, .int .u64 x, .int .u64 y] W fun r W' => r = .returned (.bool true) ∧ Below W.heap.size W W' := by
  go_enter Try.func5, Try.ntmps5
  go_wp2_with fail
  refine (unhide HW _).mono ?_
  rintro _ w1 ⟨rfl, hb⟩
  have HB := hide hb
  clear hb
  go_wp2_with fail
  refine (unhide HA1 _).mono ?_
  rintro _ w2 ⟨rfl, hb⟩
  have HB := hide (bthen (unhide HB) hb)
  clear hb
  go_wp2_with fail
  refine (unhide HA2 _).mono ?_
  rintro _ w3 ⟨rfl, hb⟩
  have HB := hide (bthen (unhide HB) hb)
  clear hb
  go_wp2_with fail
  refine (unhide HT _).mono ?_
  rintro _ w4 ⟨rfl, hb⟩
  have HB := hide (bthen (unhide HB) hb)
  clear hb
  go_wp2_with fail
  refine (unhide HN _).mono ?_
  rintro _ w5 ⟨rfl, hb⟩
  have HB := hide (bthen (unhide HB) hb)
  clear hb
  go_wp2_with fail
  refine (unhide HC _).mono ?_
  rintro _ w6 ⟨rfl, hb⟩
  have HB := hide (bthen (unhide HB) hb)
  clear hb
  go_wp2_with fail
  refine (unhide HO _).mono ?_
  rintro _ w7 ⟨rfl, hb⟩
  have HB := hide (bthen (unhide HB) hb)
  have HB := hide (balloc (unhide HB) (.cells #[.bool n, .int .i64 3, .int .i64 X, .int .u64 S] 34))
  have HA := hide (at4_new w7 (.bool n) (.int .i64 3) (.int .i64 X) (.int .u64 S) 34)
  clear hb
  have c1' := (unhide HA).2.1
  go_wp2_with fail
  clear c1'
  refine (unhide HN _).mono ?_
  rintro _ w8 ⟨rfl, hb⟩
  have HB := hide (bthen (unhide HB) hb)
  have HA := hide ((unhide HA).below hb)
  clear hb
  have c1' := (unhide HA).2.1
  go_wp2_with fail
  clear c1'
  refine (unhide HS _).mono ?_
  rintro _ w9 ⟨rfl, hb⟩
  have HB := hide (bthen (unhide HB) hb)
  have HA := hide ((unhide HA).below hb)
  clear hb
  have c1' := (unhide HA).2.1
  go_wp2_with fail
  go_ret
  exact ⟨by simp, unhide HB⟩
set_option maxRecDepth 100000 in
set_option maxHeartbeats 4000000 in
theorem keeps_it64 {w x y Nn X S d Z x' cx : Int} {n : Bool} (W : World) (g1 : (w != 32) = true) (g2 : (w != 64) = false) (HW : Hid (∀ W, Calls Try.prog 8 #[] W fun r W' => r = .returned (.bool true) ∧ Below W.heap.size W W')) (HA1 : Hid (∀ W, Calls Try.prog 9 #[.int .i64 w, .int .u64 x, .int .u64 y] W fun r W' => r = .returned (.int .u64 Nn) ∧ Below W.heap.size W W')) (HA2 : Hid (∀ W, Calls Try.prog 9 #[.int .i64 w, .int .u64 y, .int .u64 x] W fun r W' => r = .returned (.int .u64 Nn) ∧ Below W.heap.size W W')) (HT : Hid (∀ W, Calls Try.prog 15 #[.int .i64 w, .int .u64 Nn] W fun r W' => r = .returned (.bool true) ∧ Below W.heap.size W W')) (HN : Hid (∀ W, Calls Try.prog 16 #[.int .i64 w] W fun r W' => r = .returned (.int .u64 Nn) ∧ Below W.heap.size W W')) (HC : Hid (∀ W, Calls Try.prog 17 #[.int .i64 w, .int .u64 Nn] W fun r W' => r = .returned (.int .u64 Nn) ∧ Below W.heap.size W W')) (HO : Hid (∀ W, Calls Try.prog 18 #[.int .i64 w, .int .u64 x] W fun r W' => r = .returned (.agg #[.bool n, .int .i64 2, .int .i64 X, .int .u64 S]) ∧ Below W.heap.size W W')) (HX : Hid (∀ W, Calls Try.prog 10 #[.int .i64 w, .int .u64 x, .int .u64 x] W fun r W' => r = .returned (.int .u64 Nn) ∧ Below W.heap.size W W')) (HS : Hid (∀ W, Calls Try.prog 10 #[.int .i64 w, .int .u64 y, .int .u64 x] W fun r W' => r = .returned (.int .u64 d) ∧ Below W.heap.size W W')) (HZ : Hid (∀ W, Calls Try.prog 19 #[.int .i64 w, .bool true] W fun r W' => r = .returned (.int .u64 Z) ∧ Below W.heap.size W W')) (kx : bits .xor .u64 x Z = x') (HA3 : Hid (∀ W, Calls Try.prog 9 #[.int .i64 w, .int .u64 y, .int .u64 x'] W fun r W' => r = .returned (.int .u64 d) ∧ Below W.heap.size W W')) (HA4 : Hid (∀ W, Calls Try.prog 9 #[.int .i64 w, .int .u64 x, .int .u64 0] W fun r W' => r = .returned (.int .u64 cx) ∧ Below W.heap.size W W')) (HC2 : Hid (∀ W, Calls Try.prog 17 #[.int .i64 w, .int .u64 x] W fun r W' => r = .returned (.int .u64 cx) ∧ Below W.heap.size W W')) :
    Calls Try.prog 5 #[.int .i64 w, .int .u64 x, .int .u64 y] W fun r W' => r = .returned (.bool true) ∧ Below W.heap.size W W' := by
  go_enter Try.func5, Try.ntmps5
  go_wp2_with fail
  refine (unhide HW _).mono ?_
  rintro _ w1 ⟨rfl, hb⟩
  have HB := hide hb
  clear hb
  go_wp2_with fail
  refine (unhide HA1 _).mono ?_
  rintro _ w2 ⟨rfl, hb⟩
  have HB := hide (bthen (unhide HB) hb)
  clear hb
  go_wp2_with fail
  refine (unhide HA2 _).mono ?_
  rintro _ w3 ⟨rfl, hb⟩
  have HB := hide (bthen (unhide HB) hb)
  clear hb
  go_wp2_with fail
  refine (unhide HT _).mono ?_
  rintro _ w4 ⟨rfl, hb⟩
  have HB := hide (bthen (unhide HB) hb)
  clear hb
  go_wp2_with fail
  refine (unhide HN _).mono ?_
  rintro _ w5 ⟨rfl, hb⟩
  have HB := hide (bthen (unhide HB) hb)
  clear hb
  go_wp2_with fail
  refine (unhide HC _).mono ?_
  rintro _ w6 ⟨rfl, hb⟩
  have HB := hide (bthen (unhide HB) hb)
  clear hb
  go_wp2_with fail
  refine (unhide HO _).mono ?_
  rintro _ w7 ⟨rfl, hb⟩
  have HB := hide (bthen (unhide HB) hb)
  have HB := hide (balloc (unhide HB) (.cells #[.bool n, .int .i64 2, .int .i64 X, .int .u64 S] 34))
  have HA := hide (at4_new w7 (.bool n) (.int .i64 2) (.int .i64 X) (.int .u64 S) 34)
  clear hb
  have c1' := (unhide HA).2.1
  go_wp2_with fail
  clear c1'
  refine (unhide HX _).mono ?_
  rintro _ w8 ⟨rfl, hb⟩
  have HB := hide (bthen (unhide HB) hb)
  have HA := hide ((unhide HA).below hb)
  clear hb
  have c1' := (unhide HA).2.1
  go_wp2_with fail
  clear c1'
  refine (unhide HN _).mono ?_
  rintro _ w9 ⟨rfl, hb⟩
  have HB := hide (bthen (unhide HB) hb)
  have HA := hide ((unhide HA).below hb)
  clear hb
  have c1' := (unhide HA).2.1
  go_wp2_with fail
  clear c1'
  refine (unhide HS _).mono ?_
  rintro _ w10 ⟨rfl, hb⟩
  have HB := hide (bthen (unhide HB) hb)
  have HA := hide ((unhide HA).below hb)
  clear hb
  have c1' := (unhide HA).2.1
  go_wp2_with fail
  clear c1'
  refine (unhide HZ _).mono ?_
  rintro _ w11 ⟨rfl, hb⟩
  have HB := hide (bthen (unhide HB) hb)
  have HA := hide ((unhide HA).below hb)
  clear hb
  have c1' := (unhide HA).2.1
  go_wp2_with fail
  clear c1'
  refine (unhide HA3 _).mono ?_
  rintro _ w12 ⟨rfl, hb⟩
  have HB := hide (bthen (unhide HB) hb)
  have HA := hide ((unhide HA).below hb)
  clear hb
  have c1' := (unhide HA).2.1
  go_wp2_with fail
  clear c1'
  refine (unhide HA4 _).mono ?_
  rintro _ w13 ⟨rfl, hb⟩
  have HB := hide (bthen (unhide HB) hb)
  have HA := hide ((unhide HA).below hb)
  clear hb
  have c1' := (unhide HA).2.1
  go_wp2_with fail
  clear c1'
  refine (unhide HC2 _).mono ?_
  rintro _ w14 ⟨rfl, hb⟩
  have HB := hide (bthen (unhide HB) hb)
  have HA := hide ((unhide HA).below hb)
  clear hb
  have c1' := (unhide HA).2.1
  go_wp2_with fail
  go_ret
  exact ⟨by simp, unhide HB⟩
set_option maxRecDepth 100000 in
set_option maxHeartbeats 4000000 in
theorem keeps_zt64 {w x y Nn  X S d Z x' : Int} {n : Bool} (W : World) (g1 : (w != 32) = true) (g2 : (w != 64) = false) (HW : Hid (∀ W, Calls Try.prog 8 #[] W fun r W' => r = .returned (.bool true) ∧ Below W.heap.size W W')) (HA1 : Hid (∀ W, Calls Try.prog 9 #[.int .i64 w, .int .u64 x, .int .u64 y] W fun r W' => r = .returned (.int .u64 Nn) ∧ Below W.heap.size W W')) (HA2 : Hid (∀ W, Calls Try.prog 9 #[.int .i64 w, .int .u64 y, .int .u64 x] W fun r W' => r = .returned (.int .u64 Nn) ∧ Below W.heap.size W W')) (HT : Hid (∀ W, Calls Try.prog 15 #[.int .i64 w, .int .u64 Nn] W fun r W' => r = .returned (.bool true) ∧ Below W.heap.size W W')) (HN : Hid (∀ W, Calls Try.prog 16 #[.int .i64 w] W fun r W' => r = .returned (.int .u64 Nn) ∧ Below W.heap.size W W')) (HC : Hid (∀ W, Calls Try.prog 17 #[.int .i64 w, .int .u64 Nn] W fun r W' => r = .returned (.int .u64 Nn) ∧ Below W.heap.size W W')) (HO : Hid (∀ W, Calls Try.prog 18 #[.int .i64 w, .int .u64 x] W fun r W' => r = .returned (.agg #[.bool n, .int .i64 0, .int .i64 X, .int .u64 S]) ∧ Below W.heap.size W W')) (HX : Hid (∀ W, Calls Try.prog 10 #[.int .i64 w, .int .u64 x, .int .u64 x] W fun r W' => r = .returned (.int .u64 0) ∧ Below W.heap.size W W')) (HS : Hid (∀ W, Calls Try.prog 10 #[.int .i64 w, .int .u64 y, .int .u64 x] W fun r W' => r = .returned (.int .u64 d) ∧ Below W.heap.size W W')) (HZ : Hid (∀ W, Calls Try.prog 19 #[.int .i64 w, .bool true] W fun r W' => r = .returned (.int .u64 Z) ∧ Below W.heap.size W W')) (kx : bits .xor .u64 x Z = x') (HA3 : Hid (∀ W, Calls Try.prog 9 #[.int .i64 w, .int .u64 y, .int .u64 x'] W fun r W' => r = .returned (.int .u64 d) ∧ Below W.heap.size W W')) :
    Calls Try.prog 5 #[.int .i64 w, .int .u64 x, .int .u64 y] W fun r W' => r = .returned (.bool true) ∧ Below W.heap.size W W' := by
  go_enter Try.func5, Try.ntmps5
  go_wp2_with fail
  refine (unhide HW _).mono ?_
  rintro _ w1 ⟨rfl, hb⟩
  have HB := hide hb
  clear hb
  go_wp2_with fail
  refine (unhide HA1 _).mono ?_
  rintro _ w2 ⟨rfl, hb⟩
  have HB := hide (bthen (unhide HB) hb)
  clear hb
  go_wp2_with fail
  refine (unhide HA2 _).mono ?_
  rintro _ w3 ⟨rfl, hb⟩
  have HB := hide (bthen (unhide HB) hb)
  clear hb
  go_wp2_with fail
  refine (unhide HT _).mono ?_
  rintro _ w4 ⟨rfl, hb⟩
  have HB := hide (bthen (unhide HB) hb)
  clear hb
  go_wp2_with fail
  refine (unhide HN _).mono ?_
  rintro _ w5 ⟨rfl, hb⟩
  have HB := hide (bthen (unhide HB) hb)
  clear hb
  go_wp2_with fail
  refine (unhide HC _).mono ?_
  rintro _ w6 ⟨rfl, hb⟩
  have HB := hide (bthen (unhide HB) hb)
  clear hb
  go_wp2_with fail
  refine (unhide HO _).mono ?_
  rintro _ w7 ⟨rfl, hb⟩
  have HB := hide (bthen (unhide HB) hb)
  have HB := hide (balloc (unhide HB) (.cells #[.bool n, .int .i64 0, .int .i64 X, .int .u64 S] 34))
  have HA := hide (at4_new w7 (.bool n) (.int .i64 0) (.int .i64 X) (.int .u64 S) 34)
  clear hb
  have c1' := (unhide HA).2.1
  go_wp2_with fail
  clear c1'
  refine (unhide HX _).mono ?_
  rintro _ w8 ⟨rfl, hb⟩
  have HB := hide (bthen (unhide HB) hb)
  have HA := hide ((unhide HA).below hb)
  clear hb
  have c1' := (unhide HA).2.1
  go_wp2_with fail
  clear c1'
  refine (unhide HS _).mono ?_
  rintro _ w9 ⟨rfl, hb⟩
  have HB := hide (bthen (unhide HB) hb)
  have HA := hide ((unhide HA).below hb)
  clear hb
  have c1' := (unhide HA).2.1
  go_wp2_with fail
  clear c1'
  refine (unhide HZ _).mono ?_
  rintro _ w10 ⟨rfl, hb⟩
  have HB := hide (bthen (unhide HB) hb)
  have HA := hide ((unhide HA).below hb)
  clear hb
  have c1' := (unhide HA).2.1
  go_wp2_with fail
  clear c1'
  refine (unhide HA3 _).mono ?_
  rintro _ w11 ⟨rfl, hb⟩
  have HB := hide (bthen (unhide HB) hb)
  have HA := hide ((unhide HA).below hb)
  clear hb
  have c1' := (unhide HA).2.1
  go_wp2_with fail
  go_ret
  exact ⟨by simp, unhide HB⟩
set_option maxRecDepth 100000 in
set_option maxHeartbeats 4000000 in
theorem keeps_ot64 {w x y Nn  X S d Z x' cx : Int} {n : Bool} (W : World) (g1 : (w != 32) = true) (g2 : (w != 64) = false) (HW : Hid (∀ W, Calls Try.prog 8 #[] W fun r W' => r = .returned (.bool true) ∧ Below W.heap.size W W')) (HA1 : Hid (∀ W, Calls Try.prog 9 #[.int .i64 w, .int .u64 x, .int .u64 y] W fun r W' => r = .returned (.int .u64 Nn) ∧ Below W.heap.size W W')) (HA2 : Hid (∀ W, Calls Try.prog 9 #[.int .i64 w, .int .u64 y, .int .u64 x] W fun r W' => r = .returned (.int .u64 Nn) ∧ Below W.heap.size W W')) (HT : Hid (∀ W, Calls Try.prog 15 #[.int .i64 w, .int .u64 Nn] W fun r W' => r = .returned (.bool true) ∧ Below W.heap.size W W')) (HN : Hid (∀ W, Calls Try.prog 16 #[.int .i64 w] W fun r W' => r = .returned (.int .u64 Nn) ∧ Below W.heap.size W W')) (HC : Hid (∀ W, Calls Try.prog 17 #[.int .i64 w, .int .u64 Nn] W fun r W' => r = .returned (.int .u64 Nn) ∧ Below W.heap.size W W')) (HO : Hid (∀ W, Calls Try.prog 18 #[.int .i64 w, .int .u64 x] W fun r W' => r = .returned (.agg #[.bool n, .int .i64 1, .int .i64 X, .int .u64 S]) ∧ Below W.heap.size W W')) (HX : Hid (∀ W, Calls Try.prog 10 #[.int .i64 w, .int .u64 x, .int .u64 x] W fun r W' => r = .returned (.int .u64 0) ∧ Below W.heap.size W W')) (HS : Hid (∀ W, Calls Try.prog 10 #[.int .i64 w, .int .u64 y, .int .u64 x] W fun r W' => r = .returned (.int .u64 d) ∧ Below W.heap.size W W')) (HZ : Hid (∀ W, Calls Try.prog 19 #[.int .i64 w, .bool true] W fun r W' => r = .returned (.int .u64 Z) ∧ Below W.heap.size W W')) (kx : bits .xor .u64 x Z = x') (HA3 : Hid (∀ W, Calls Try.prog 9 #[.int .i64 w, .int .u64 y, .int .u64 x'] W fun r W' => r = .returned (.int .u64 d) ∧ Below W.heap.size W W')) (HA4 : Hid (∀ W, Calls Try.prog 9 #[.int .i64 w, .int .u64 x, .int .u64 0] W fun r W' => r = .returned (.int .u64 cx) ∧ Below W.heap.size W W')) (HC2 : Hid (∀ W, Calls Try.prog 17 #[.int .i64 w, .int .u64 x] W fun r W' => r = .returned (.int .u64 cx) ∧ Below W.heap.size W W')) :
    Calls Try.prog 5 #[.int .i64 w, .int .u64 x, .int .u64 y] W fun r W' => r = .returned (.bool true) ∧ Below W.heap.size W W' := by
  go_enter Try.func5, Try.ntmps5
  go_wp2_with fail
  refine (unhide HW _).mono ?_
  rintro _ w1 ⟨rfl, hb⟩
  have HB := hide hb
  clear hb
  go_wp2_with fail
  refine (unhide HA1 _).mono ?_
  rintro _ w2 ⟨rfl, hb⟩
  have HB := hide (bthen (unhide HB) hb)
  clear hb
  go_wp2_with fail
  refine (unhide HA2 _).mono ?_
  rintro _ w3 ⟨rfl, hb⟩
  have HB := hide (bthen (unhide HB) hb)
  clear hb
  go_wp2_with fail
  refine (unhide HT _).mono ?_
  rintro _ w4 ⟨rfl, hb⟩
  have HB := hide (bthen (unhide HB) hb)
  clear hb
  go_wp2_with fail
  refine (unhide HN _).mono ?_
  rintro _ w5 ⟨rfl, hb⟩
  have HB := hide (bthen (unhide HB) hb)
  clear hb
  go_wp2_with fail
  refine (unhide HC _).mono ?_
  rintro _ w6 ⟨rfl, hb⟩
  have HB := hide (bthen (unhide HB) hb)
  clear hb
  go_wp2_with fail
  refine (unhide HO _).mono ?_
  rintro _ w7 ⟨rfl, hb⟩
  have HB := hide (bthen (unhide HB) hb)
  have HB := hide (balloc (unhide HB) (.cells #[.bool n, .int .i64 1, .int .i64 X, .int .u64 S] 34))
  have HA := hide (at4_new w7 (.bool n) (.int .i64 1) (.int .i64 X) (.int .u64 S) 34)
  clear hb
  have c1' := (unhide HA).2.1
  go_wp2_with fail
  clear c1'
  refine (unhide HX _).mono ?_
  rintro _ w8 ⟨rfl, hb⟩
  have HB := hide (bthen (unhide HB) hb)
  have HA := hide ((unhide HA).below hb)
  clear hb
  have c1' := (unhide HA).2.1
  go_wp2_with fail
  clear c1'
  refine (unhide HS _).mono ?_
  rintro _ w9 ⟨rfl, hb⟩
  have HB := hide (bthen (unhide HB) hb)
  have HA := hide ((unhide HA).below hb)
  clear hb
  have c1' := (unhide HA).2.1
  go_wp2_with fail
  clear c1'
  refine (unhide HZ _).mono ?_
  rintro _ w10 ⟨rfl, hb⟩
  have HB := hide (bthen (unhide HB) hb)
  have HA := hide ((unhide HA).below hb)
  clear hb
  have c1' := (unhide HA).2.1
  go_wp2_with fail
  clear c1'
  refine (unhide HA3 _).mono ?_
  rintro _ w11 ⟨rfl, hb⟩
  have HB := hide (bthen (unhide HB) hb)
  have HA := hide ((unhide HA).below hb)
  clear hb
  have c1' := (unhide HA).2.1
  go_wp2_with fail
  clear c1'
  refine (unhide HA4 _).mono ?_
  rintro _ w12 ⟨rfl, hb⟩
  have HB := hide (bthen (unhide HB) hb)
  have HA := hide ((unhide HA).below hb)
  clear hb
  have c1' := (unhide HA).2.1
  go_wp2_with fail
  clear c1'
  refine (unhide HC2 _).mono ?_
  rintro _ w13 ⟨rfl, hb⟩
  have HB := hide (bthen (unhide HB) hb)
  have HA := hide ((unhide HA).below hb)
  clear hb
  have c1' := (unhide HA).2.1
  go_wp2_with fail
  go_ret
  exact ⟨by simp, unhide HB⟩
set_option maxRecDepth 100000 in
set_option maxHeartbeats 4000000 in
theorem keeps_if64 {w x y Nn s X S d Z x' cx : Int} {n : Bool} (W : World) (g1 : (w != 32) = true) (g2 : (w != 64) = false) (HW : Hid (∀ W, Calls Try.prog 8 #[] W fun r W' => r = .returned (.bool true) ∧ Below W.heap.size W W')) (HA1 : Hid (∀ W, Calls Try.prog 9 #[.int .i64 w, .int .u64 x, .int .u64 y] W fun r W' => r = .returned (.int .u64 s) ∧ Below W.heap.size W W')) (HA2 : Hid (∀ W, Calls Try.prog 9 #[.int .i64 w, .int .u64 y, .int .u64 x] W fun r W' => r = .returned (.int .u64 s) ∧ Below W.heap.size W W')) (HT : Hid (∀ W, Calls Try.prog 15 #[.int .i64 w, .int .u64 s] W fun r W' => r = .returned (.bool false) ∧ Below W.heap.size W W')) (HN : Hid (∀ W, Calls Try.prog 16 #[.int .i64 w] W fun r W' => r = .returned (.int .u64 Nn) ∧ Below W.heap.size W W')) (HC : Hid (∀ W, Calls Try.prog 17 #[.int .i64 w, .int .u64 s] W fun r W' => r = .returned (.int .u64 s) ∧ Below W.heap.size W W')) (HO : Hid (∀ W, Calls Try.prog 18 #[.int .i64 w, .int .u64 x] W fun r W' => r = .returned (.agg #[.bool n, .int .i64 2, .int .i64 X, .int .u64 S]) ∧ Below W.heap.size W W')) (HX : Hid (∀ W, Calls Try.prog 10 #[.int .i64 w, .int .u64 x, .int .u64 x] W fun r W' => r = .returned (.int .u64 Nn) ∧ Below W.heap.size W W')) (HS : Hid (∀ W, Calls Try.prog 10 #[.int .i64 w, .int .u64 y, .int .u64 x] W fun r W' => r = .returned (.int .u64 d) ∧ Below W.heap.size W W')) (HZ : Hid (∀ W, Calls Try.prog 19 #[.int .i64 w, .bool true] W fun r W' => r = .returned (.int .u64 Z) ∧ Below W.heap.size W W')) (kx : bits .xor .u64 x Z = x') (HA3 : Hid (∀ W, Calls Try.prog 9 #[.int .i64 w, .int .u64 y, .int .u64 x'] W fun r W' => r = .returned (.int .u64 d) ∧ Below W.heap.size W W')) (HA4 : Hid (∀ W, Calls Try.prog 9 #[.int .i64 w, .int .u64 x, .int .u64 0] W fun r W' => r = .returned (.int .u64 cx) ∧ Below W.heap.size W W')) (HC2 : Hid (∀ W, Calls Try.prog 17 #[.int .i64 w, .int .u64 x] W fun r W' => r = .returned (.int .u64 cx) ∧ Below W.heap.size W W')) :
    Calls Try.prog 5 #[.int .i64 w, .int .u64 x, .int .u64 y] W fun r W' => r = .returned (.bool true) ∧ Below W.heap.size W W' := by
  go_enter Try.func5, Try.ntmps5
  go_wp2_with fail
  refine (unhide HW _).mono ?_
  rintro _ w1 ⟨rfl, hb⟩
  have HB := hide hb
  clear hb
  go_wp2_with fail
  refine (unhide HA1 _).mono ?_
  rintro _ w2 ⟨rfl, hb⟩
  have HB := hide (bthen (unhide HB) hb)
  clear hb
  go_wp2_with fail
  refine (unhide HA2 _).mono ?_
  rintro _ w3 ⟨rfl, hb⟩
  have HB := hide (bthen (unhide HB) hb)
  clear hb
  go_wp2_with fail
  refine (unhide HT _).mono ?_
  rintro _ w4 ⟨rfl, hb⟩
  have HB := hide (bthen (unhide HB) hb)
  clear hb
  go_wp2_with fail
  refine (unhide HC _).mono ?_
  rintro _ w5 ⟨rfl, hb⟩
  have HB := hide (bthen (unhide HB) hb)
  clear hb
  go_wp2_with fail
  refine (unhide HO _).mono ?_
  rintro _ w6 ⟨rfl, hb⟩
  have HB := hide (bthen (unhide HB) hb)
  have HB := hide (balloc (unhide HB) (.cells #[.bool n, .int .i64 2, .int .i64 X, .int .u64 S] 34))
  have HA := hide (at4_new w6 (.bool n) (.int .i64 2) (.int .i64 X) (.int .u64 S) 34)
  clear hb
  have c1' := (unhide HA).2.1
  go_wp2_with fail
  clear c1'
  refine (unhide HX _).mono ?_
  rintro _ w7 ⟨rfl, hb⟩
  have HB := hide (bthen (unhide HB) hb)
  have HA := hide ((unhide HA).below hb)
  clear hb
  have c1' := (unhide HA).2.1
  go_wp2_with fail
  clear c1'
  refine (unhide HN _).mono ?_
  rintro _ w8 ⟨rfl, hb⟩
  have HB := hide (bthen (unhide HB) hb)
  have HA := hide ((unhide HA).below hb)
  clear hb
  have c1' := (unhide HA).2.1
  go_wp2_with fail
  clear c1'
  refine (unhide HS _).mono ?_
  rintro _ w9 ⟨rfl, hb⟩
  have HB := hide (bthen (unhide HB) hb)
  have HA := hide ((unhide HA).below hb)
  clear hb
  have c1' := (unhide HA).2.1
  go_wp2_with fail
  clear c1'
  refine (unhide HZ _).mono ?_
  rintro _ w10 ⟨rfl, hb⟩
  have HB := hide (bthen (unhide HB) hb)
  have HA := hide ((unhide HA).below hb)
  clear hb
  have c1' := (unhide HA).2.1
  go_wp2_with fail
  clear c1'
  refine (unhide HA3 _).mono ?_
  rintro _ w11 ⟨rfl, hb⟩
  have HB := hide (bthen (unhide HB) hb)
  have HA := hide ((unhide HA).below hb)
  clear hb
  have c1' := (unhide HA).2.1
  go_wp2_with fail
  clear c1'
  refine (unhide HA4 _).mono ?_
  rintro _ w12 ⟨rfl, hb⟩
  have HB := hide (bthen (unhide HB) hb)
  have HA := hide ((unhide HA).below hb)
  clear hb
  have c1' := (unhide HA).2.1
  go_wp2_with fail
  clear c1'
  refine (unhide HC2 _).mono ?_
  rintro _ w13 ⟨rfl, hb⟩
  have HB := hide (bthen (unhide HB) hb)
  have HA := hide ((unhide HA).below hb)
  clear hb
  have c1' := (unhide HA).2.1
  go_wp2_with fail
  go_ret
  exact ⟨by simp, unhide HB⟩
set_option maxRecDepth 100000 in
set_option maxHeartbeats 4000000 in
theorem keeps_zf64 {w x y  s X S d Z x' : Int} {n : Bool} (W : World) (g1 : (w != 32) = true) (g2 : (w != 64) = false) (HW : Hid (∀ W, Calls Try.prog 8 #[] W fun r W' => r = .returned (.bool true) ∧ Below W.heap.size W W')) (HA1 : Hid (∀ W, Calls Try.prog 9 #[.int .i64 w, .int .u64 x, .int .u64 y] W fun r W' => r = .returned (.int .u64 s) ∧ Below W.heap.size W W')) (HA2 : Hid (∀ W, Calls Try.prog 9 #[.int .i64 w, .int .u64 y, .int .u64 x] W fun r W' => r = .returned (.int .u64 s) ∧ Below W.heap.size W W')) (HT : Hid (∀ W, Calls Try.prog 15 #[.int .i64 w, .int .u64 s] W fun r W' => r = .returned (.bool false) ∧ Below W.heap.size W W')) (HC : Hid (∀ W, Calls Try.prog 17 #[.int .i64 w, .int .u64 s] W fun r W' => r = .returned (.int .u64 s) ∧ Below W.heap.size W W')) (HO : Hid (∀ W, Calls Try.prog 18 #[.int .i64 w, .int .u64 x] W fun r W' => r = .returned (.agg #[.bool n, .int .i64 0, .int .i64 X, .int .u64 S]) ∧ Below W.heap.size W W')) (HX : Hid (∀ W, Calls Try.prog 10 #[.int .i64 w, .int .u64 x, .int .u64 x] W fun r W' => r = .returned (.int .u64 0) ∧ Below W.heap.size W W')) (HS : Hid (∀ W, Calls Try.prog 10 #[.int .i64 w, .int .u64 y, .int .u64 x] W fun r W' => r = .returned (.int .u64 d) ∧ Below W.heap.size W W')) (HZ : Hid (∀ W, Calls Try.prog 19 #[.int .i64 w, .bool true] W fun r W' => r = .returned (.int .u64 Z) ∧ Below W.heap.size W W')) (kx : bits .xor .u64 x Z = x') (HA3 : Hid (∀ W, Calls Try.prog 9 #[.int .i64 w, .int .u64 y, .int .u64 x'] W fun r W' => r = .returned (.int .u64 d) ∧ Below W.heap.size W W')) :
    Calls Try.prog 5 #[.int .i64 w, .int .u64 x, .int .u64 y] W fun r W' => r = .returned (.bool true) ∧ Below W.heap.size W W' := by
  go_enter Try.func5, Try.ntmps5
  go_wp2_with fail
  refine (unhide HW _).mono ?_
  rintro _ w1 ⟨rfl, hb⟩
  have HB := hide hb
  clear hb
  go_wp2_with fail
  refine (unhide HA1 _).mono ?_
  rintro _ w2 ⟨rfl, hb⟩
  have HB := hide (bthen (unhide HB) hb)
  clear hb
  go_wp2_with fail
  refine (unhide HA2 _).mono ?_
  rintro _ w3 ⟨rfl, hb⟩
  have HB := hide (bthen (unhide HB) hb)
  clear hb
  go_wp2_with fail
  refine (unhide HT _).mono ?_
  rintro _ w4 ⟨rfl, hb⟩
  have HB := hide (bthen (unhide HB) hb)
  clear hb
  go_wp2_with fail
  refine (unhide HC _).mono ?_
  rintro _ w5 ⟨rfl, hb⟩
  have HB := hide (bthen (unhide HB) hb)
  clear hb
  go_wp2_with fail
  refine (unhide HO _).mono ?_
  rintro _ w6 ⟨rfl, hb⟩
  have HB := hide (bthen (unhide HB) hb)
  have HB := hide (balloc (unhide HB) (.cells #[.bool n, .int .i64 0, .int .i64 X, .int .u64 S] 34))
  have HA := hide (at4_new w6 (.bool n) (.int .i64 0) (.int .i64 X) (.int .u64 S) 34)
  clear hb
  have c1' := (unhide HA).2.1
  go_wp2_with fail
  clear c1'
  refine (unhide HX _).mono ?_
  rintro _ w7 ⟨rfl, hb⟩
  have HB := hide (bthen (unhide HB) hb)
  have HA := hide ((unhide HA).below hb)
  clear hb
  have c1' := (unhide HA).2.1
  go_wp2_with fail
  clear c1'
  refine (unhide HS _).mono ?_
  rintro _ w8 ⟨rfl, hb⟩
  have HB := hide (bthen (unhide HB) hb)
  have HA := hide ((unhide HA).below hb)
  clear hb
  have c1' := (unhide HA).2.1
  go_wp2_with fail
  clear c1'
  refine (unhide HZ _).mono ?_
  rintro _ w9 ⟨rfl, hb⟩
  have HB := hide (bthen (unhide HB) hb)
  have HA := hide ((unhide HA).below hb)
  clear hb
  have c1' := (unhide HA).2.1
  go_wp2_with fail
  clear c1'
  refine (unhide HA3 _).mono ?_
  rintro _ w10 ⟨rfl, hb⟩
  have HB := hide (bthen (unhide HB) hb)
  have HA := hide ((unhide HA).below hb)
  clear hb
  have c1' := (unhide HA).2.1
  go_wp2_with fail
  go_ret
  exact ⟨by simp, unhide HB⟩
set_option maxRecDepth 100000 in
set_option maxHeartbeats 4000000 in
theorem keeps_of64 {w x y  s X S d Z x' cx : Int} {n : Bool} (W : World) (g1 : (w != 32) = true) (g2 : (w != 64) = false) (HW : Hid (∀ W, Calls Try.prog 8 #[] W fun r W' => r = .returned (.bool true) ∧ Below W.heap.size W W')) (HA1 : Hid (∀ W, Calls Try.prog 9 #[.int .i64 w, .int .u64 x, .int .u64 y] W fun r W' => r = .returned (.int .u64 s) ∧ Below W.heap.size W W')) (HA2 : Hid (∀ W, Calls Try.prog 9 #[.int .i64 w, .int .u64 y, .int .u64 x] W fun r W' => r = .returned (.int .u64 s) ∧ Below W.heap.size W W')) (HT : Hid (∀ W, Calls Try.prog 15 #[.int .i64 w, .int .u64 s] W fun r W' => r = .returned (.bool false) ∧ Below W.heap.size W W')) (HC : Hid (∀ W, Calls Try.prog 17 #[.int .i64 w, .int .u64 s] W fun r W' => r = .returned (.int .u64 s) ∧ Below W.heap.size W W')) (HO : Hid (∀ W, Calls Try.prog 18 #[.int .i64 w, .int .u64 x] W fun r W' => r = .returned (.agg #[.bool n, .int .i64 1, .int .i64 X, .int .u64 S]) ∧ Below W.heap.size W W')) (HX : Hid (∀ W, Calls Try.prog 10 #[.int .i64 w, .int .u64 x, .int .u64 x] W fun r W' => r = .returned (.int .u64 0) ∧ Below W.heap.size W W')) (HS : Hid (∀ W, Calls Try.prog 10 #[.int .i64 w, .int .u64 y, .int .u64 x] W fun r W' => r = .returned (.int .u64 d) ∧ Below W.heap.size W W')) (HZ : Hid (∀ W, Calls Try.prog 19 #[.int .i64 w, .bool true] W fun r W' => r = .returned (.int .u64 Z) ∧ Below W.heap.size W W')) (kx : bits .xor .u64 x Z = x') (HA3 : Hid (∀ W, Calls Try.prog 9 #[.int .i64 w, .int .u64 y, .int .u64 x'] W fun r W' => r = .returned (.int .u64 d) ∧ Below W.heap.size W W')) (HA4 : Hid (∀ W, Calls Try.prog 9 #[.int .i64 w, .int .u64 x, .int .u64 0] W fun r W' => r = .returned (.int .u64 cx) ∧ Below W.heap.size W W')) (HC2 : Hid (∀ W, Calls Try.prog 17 #[.int .i64 w, .int .u64 x] W fun r W' => r = .returned (.int .u64 cx) ∧ Below W.heap.size W W')) :
    Calls Try.prog 5 #[.int .i64 w, .int .u64 x, .int .u64 y] W fun r W' => r = .returned (.bool true) ∧ Below W.heap.size W W' := by
  go_enter Try.func5, Try.ntmps5
  go_wp2_with fail
  refine (unhide HW _).mono ?_
  rintro _ w1 ⟨rfl, hb⟩
  have HB := hide hb
  clear hb
  go_wp2_with fail
  refine (unhide HA1 _).mono ?_
  rintro _ w2 ⟨rfl, hb⟩
  have HB := hide (bthen (unhide HB) hb)
  clear hb
  go_wp2_with fail
  refine (unhide HA2 _).mono ?_
  rintro _ w3 ⟨rfl, hb⟩
  have HB := hide (bthen (unhide HB) hb)
  clear hb
  go_wp2_with fail
  refine (unhide HT _).mono ?_
  rintro _ w4 ⟨rfl, hb⟩
  have HB := hide (bthen (unhide HB) hb)
  clear hb
  go_wp2_with fail
  refine (unhide HC _).mono ?_
  rintro _ w5 ⟨rfl, hb⟩
  have HB := hide (bthen (unhide HB) hb)
  clear hb
  go_wp2_with fail
  refine (unhide HO _).mono ?_
  rintro _ w6 ⟨rfl, hb⟩
  have HB := hide (bthen (unhide HB) hb)
  have HB := hide (balloc (unhide HB) (.cells #[.bool n, .int .i64 1, .int .i64 X, .int .u64 S] 34))
  have HA := hide (at4_new w6 (.bool n) (.int .i64 1) (.int .i64 X) (.int .u64 S) 34)
  clear hb
  have c1' := (unhide HA).2.1
  go_wp2_with fail
  clear c1'
  refine (unhide HX _).mono ?_
  rintro _ w7 ⟨rfl, hb⟩
  have HB := hide (bthen (unhide HB) hb)
  have HA := hide ((unhide HA).below hb)
  clear hb
  have c1' := (unhide HA).2.1
  go_wp2_with fail
  clear c1'
  refine (unhide HS _).mono ?_
  rintro _ w8 ⟨rfl, hb⟩
  have HB := hide (bthen (unhide HB) hb)
  have HA := hide ((unhide HA).below hb)
  clear hb
  have c1' := (unhide HA).2.1
  go_wp2_with fail
  clear c1'
  refine (unhide HZ _).mono ?_
  rintro _ w9 ⟨rfl, hb⟩
  have HB := hide (bthen (unhide HB) hb)
  have HA := hide ((unhide HA).below hb)
  clear hb
  have c1' := (unhide HA).2.1
  go_wp2_with fail
  clear c1'
  refine (unhide HA3 _).mono ?_
  rintro _ w10 ⟨rfl, hb⟩
  have HB := hide (bthen (unhide HB) hb)
  have HA := hide ((unhide HA).below hb)
  clear hb
  have c1' := (unhide HA).2.1
  go_wp2_with fail
  clear c1'
  refine (unhide HA4 _).mono ?_
  rintro _ w11 ⟨rfl, hb⟩
  have HB := hide (bthen (unhide HB) hb)
  have HA := hide ((unhide HA).below hb)
  clear hb
  have c1' := (unhide HA).2.1
  go_wp2_with fail
  clear c1'
  refine (unhide HC2 _).mono ?_
  rintro _ w12 ⟨rfl, hb⟩
  have HB := hide (bthen (unhide HB) hb)
  have HA := hide ((unhide HA).below hb)
  clear hb
  have c1' := (unhide HA).2.1
  go_wp2_with fail
  go_ret
  exact ⟨by simp, unhide HB⟩

end Go.Proofs.Yticbhdgamblmbaa
