/- QuoR, ProdA, WMulA, WRefK, ProdR, ProdC, QuoD. -/
import Derived.Test.YtcgnlpamfhdiiaaG06
import Derived.Test.YtcgnlpamfhdiiaaG09
import Derived.Test.YtcgnlpamfhdiiaaG11
import Derived.Test.YtcgnlpamfhdiiaaG15
import Derived.Test.YtcgnlpamfhdiiaaG16
import Derived.Test.YtcgnlpamfhdiiaaG18
import Derived.Laws.MakeOwn
import Derived.Laws.OwnMore
namespace Go.Proofs.Ytcgnlpamfhdiiaa
open Go.RowKit
open Go.Proofs.Ytcgnlpamfhdiiaa.W

set_option maxRecDepth 100000 in
set_option maxHeartbeats 2000000 in
theorem refDivQ_n1 {w x y K1 X1 S1 K2 X2 S2 V : Int} {n1 n2 : Bool} (W : World) (HO1 : Hid (∀ W, Calls Try.prog 22 #[.int .i64 w, .int .u64 x] W fun r W' => r = .returned (.agg #[.bool n1, .int .i64 K1, .int .i64 X1, .int .u64 S1]) ∧ Below W.heap.size W W')) (HO2 : Hid (∀ W, Calls Try.prog 22 #[.int .i64 w, .int .u64 y] W fun r W' => r = .returned (.agg #[.bool n2, .int .i64 K2, .int .i64 X2, .int .u64 S2]) ∧ Below W.heap.size W W')) (a3 : (K1 == 3) = true)  (HC : Hid (∀ W, Calls Try.prog 23 #[.int .i64 w] W fun r W' => r = .returned (.int .u64 V) ∧ Below W.heap.size W W')) :
    Calls Try.prog 10 #[.int .i64 w, .int .u64 x, .int .u64 y] W fun r W' => r = .returned (.int .u64 V) ∧ Below W.heap.size W W' := by
  go_enter Try.func10, Try.ntmps10
  go_wp2_with fail
  refine (unhide HO1 _).mono ?_
  rintro _ w1 ⟨rfl, hb⟩
  have HB := hide (balloc hb (.cells #[.bool n1, .int .i64 K1, .int .i64 X1, .int .u64 S1] 45))
  have HA := hide (at4_new w1 (.bool n1) (.int .i64 K1) (.int .i64 X1) (.int .u64 S1) 45)
  clear hb
  go_wp2_with fail
  refine (unhide HO2 _).mono ?_
  rintro _ w2 ⟨rfl, hb⟩
  have HB := hide (balloc (bthen (unhide HB) hb) (.cells #[.bool n2, .int .i64 K2, .int .i64 X2, .int .u64 S2] 45))
  have HA := hide (((unhide HA).below hb).below (below1 _ (.cells #[.bool n2, .int .i64 K2, .int .i64 X2, .int .u64 S2] 45)))
  have HA2 := hide (at4_new w2 (.bool n2) (.int .i64 K2) (.int .i64 X2) (.int .u64 S2) 45)
  clear hb
  obtain ⟨c0, c1, -, -⟩ := unhide HA
  obtain ⟨d0, d1, -, -⟩ := unhide HA2
  go_wp2_with fail
  refine (unhide HC _).mono ?_
  rintro _ w3 ⟨rfl, hb⟩
  have HB := hide (bthen (unhide HB) hb)
  clear hb
  go_wp2_with fail
  go_ret
  exact ⟨rfl, unhide HB⟩
set_option maxRecDepth 100000 in
set_option maxHeartbeats 2000000 in
theorem refDivQ_n2 {w x y K1 X1 S1 K2 X2 S2 V : Int} {n1 n2 : Bool} (W : World) (HO1 : Hid (∀ W, Calls Try.prog 22 #[.int .i64 w, .int .u64 x] W fun r W' => r = .returned (.agg #[.bool n1, .int .i64 K1, .int .i64 X1, .int .u64 S1]) ∧ Below W.heap.size W W')) (HO2 : Hid (∀ W, Calls Try.prog 22 #[.int .i64 w, .int .u64 y] W fun r W' => r = .returned (.agg #[.bool n2, .int .i64 K2, .int .i64 X2, .int .u64 S2]) ∧ Below W.heap.size W W')) (a3 : (K1 == 3) = false) (b3 : (K2 == 3) = true)  (HC : Hid (∀ W, Calls Try.prog 23 #[.int .i64 w] W fun r W' => r = .returned (.int .u64 V) ∧ Below W.heap.size W W')) :
    Calls Try.prog 10 #[.int .i64 w, .int .u64 x, .int .u64 y] W fun r W' => r = .returned (.int .u64 V) ∧ Below W.heap.size W W' := by
  go_enter Try.func10, Try.ntmps10
  go_wp2_with fail
  refine (unhide HO1 _).mono ?_
  rintro _ w1 ⟨rfl, hb⟩
  have HB := hide (balloc hb (.cells #[.bool n1, .int .i64 K1, .int .i64 X1, .int .u64 S1] 45))
  have HA := hide (at4_new w1 (.bool n1) (.int .i64 K1) (.int .i64 X1) (.int .u64 S1) 45)
  clear hb
  go_wp2_with fail
  refine (unhide HO2 _).mono ?_
  rintro _ w2 ⟨rfl, hb⟩
  have HB := hide (balloc (bthen (unhide HB) hb) (.cells #[.bool n2, .int .i64 K2, .int .i64 X2, .int .u64 S2] 45))
  have HA := hide (((unhide HA).below hb).below (below1 _ (.cells #[.bool n2, .int .i64 K2, .int .i64 X2, .int .u64 S2] 45)))
  have HA2 := hide (at4_new w2 (.bool n2) (.int .i64 K2) (.int .i64 X2) (.int .u64 S2) 45)
  clear hb
  obtain ⟨c0, c1, -, -⟩ := unhide HA
  obtain ⟨d0, d1, -, -⟩ := unhide HA2
  go_wp2_with fail
  refine (unhide HC _).mono ?_
  rintro _ w3 ⟨rfl, hb⟩
  have HB := hide (bthen (unhide HB) hb)
  clear hb
  go_wp2_with fail
  go_ret
  exact ⟨rfl, unhide HB⟩
set_option maxRecDepth 100000 in
set_option maxHeartbeats 2000000 in
theorem refDivQ_n3 {w x y K1 X1 S1 K2 X2 S2 V : Int} {n1 n2 : Bool} (W : World) (HO1 : Hid (∀ W, Calls Try.prog 22 #[.int .i64 w, .int .u64 x] W fun r W' => r = .returned (.agg #[.bool n1, .int .i64 K1, .int .i64 X1, .int .u64 S1]) ∧ Below W.heap.size W W')) (HO2 : Hid (∀ W, Calls Try.prog 22 #[.int .i64 w, .int .u64 y] W fun r W' => r = .returned (.agg #[.bool n2, .int .i64 K2, .int .i64 X2, .int .u64 S2]) ∧ Below W.heap.size W W')) (a3 : (K1 == 3) = false) (b3 : (K2 == 3) = false) (a2 : (K1 == 2) = true) (b2 : (K2 == 2) = true)  (HC : Hid (∀ W, Calls Try.prog 23 #[.int .i64 w] W fun r W' => r = .returned (.int .u64 V) ∧ Below W.heap.size W W')) :
    Calls Try.prog 10 #[.int .i64 w, .int .u64 x, .int .u64 y] W fun r W' => r = .returned (.int .u64 V) ∧ Below W.heap.size W W' := by
  go_enter Try.func10, Try.ntmps10
  go_wp2_with fail
  refine (unhide HO1 _).mono ?_
  rintro _ w1 ⟨rfl, hb⟩
  have HB := hide (balloc hb (.cells #[.bool n1, .int .i64 K1, .int .i64 X1, .int .u64 S1] 45))
  have HA := hide (at4_new w1 (.bool n1) (.int .i64 K1) (.int .i64 X1) (.int .u64 S1) 45)
  clear hb
  go_wp2_with fail
  refine (unhide HO2 _).mono ?_
  rintro _ w2 ⟨rfl, hb⟩
  have HB := hide (balloc (bthen (unhide HB) hb) (.cells #[.bool n2, .int .i64 K2, .int .i64 X2, .int .u64 S2] 45))
  have HA := hide (((unhide HA).below hb).below (below1 _ (.cells #[.bool n2, .int .i64 K2, .int .i64 X2, .int .u64 S2] 45)))
  have HA2 := hide (at4_new w2 (.bool n2) (.int .i64 K2) (.int .i64 X2) (.int .u64 S2) 45)
  clear hb
  obtain ⟨c0, c1, -, -⟩ := unhide HA
  obtain ⟨d0, d1, -, -⟩ := unhide HA2
  go_wp2_with fail
  refine (unhide HC _).mono ?_
  rintro _ w3 ⟨rfl, hb⟩
  have HB := hide (bthen (unhide HB) hb)
  clear hb
  go_wp2_with fail
  go_ret
  exact ⟨rfl, unhide HB⟩
set_option maxRecDepth 100000 in
set_option maxHeartbeats 2000000 in
theorem refDivQ_n4 {w x y K1 X1 S1 K2 X2 S2 V : Int} {n1 n2 : Bool} (W : World) (HO1 : Hid (∀ W, Calls Try.prog 22 #[.int .i64 w, .int .u64 x] W fun r W' => r = .returned (.agg #[.bool n1, .int .i64 K1, .int .i64 X1, .int .u64 S1]) ∧ Below W.heap.size W W')) (HO2 : Hid (∀ W, Calls Try.prog 22 #[.int .i64 w, .int .u64 y] W fun r W' => r = .returned (.agg #[.bool n2, .int .i64 K2, .int .i64 X2, .int .u64 S2]) ∧ Below W.heap.size W W')) (a3 : (K1 == 3) = false) (b3 : (K2 == 3) = false) (a2 : (K1 == 2) = false) (a0 : (K1 == 0) = true) (b0 : (K2 == 0) = true)  (HC : Hid (∀ W, Calls Try.prog 23 #[.int .i64 w] W fun r W' => r = .returned (.int .u64 V) ∧ Below W.heap.size W W')) :
    Calls Try.prog 10 #[.int .i64 w, .int .u64 x, .int .u64 y] W fun r W' => r = .returned (.int .u64 V) ∧ Below W.heap.size W W' := by
  go_enter Try.func10, Try.ntmps10
  go_wp2_with fail
  refine (unhide HO1 _).mono ?_
  rintro _ w1 ⟨rfl, hb⟩
  have HB := hide (balloc hb (.cells #[.bool n1, .int .i64 K1, .int .i64 X1, .int .u64 S1] 45))
  have HA := hide (at4_new w1 (.bool n1) (.int .i64 K1) (.int .i64 X1) (.int .u64 S1) 45)
  clear hb
  go_wp2_with fail
  refine (unhide HO2 _).mono ?_
  rintro _ w2 ⟨rfl, hb⟩
  have HB := hide (balloc (bthen (unhide HB) hb) (.cells #[.bool n2, .int .i64 K2, .int .i64 X2, .int .u64 S2] 45))
  have HA := hide (((unhide HA).below hb).below (below1 _ (.cells #[.bool n2, .int .i64 K2, .int .i64 X2, .int .u64 S2] 45)))
  have HA2 := hide (at4_new w2 (.bool n2) (.int .i64 K2) (.int .i64 X2) (.int .u64 S2) 45)
  clear hb
  obtain ⟨c0, c1, -, -⟩ := unhide HA
  obtain ⟨d0, d1, -, -⟩ := unhide HA2
  go_wp2_with fail
  refine (unhide HC _).mono ?_
  rintro _ w3 ⟨rfl, hb⟩
  have HB := hide (bthen (unhide HB) hb)
  clear hb
  go_wp2_with fail
  go_ret
  exact ⟨rfl, unhide HB⟩
set_option maxRecDepth 100000 in
set_option maxHeartbeats 2000000 in
theorem refDivQ_i1 {w x y K1 X1 S1 K2 X2 S2 V : Int} {n1 n2 : Bool} (W : World) (HO1 : Hid (∀ W, Calls Try.prog 22 #[.int .i64 w, .int .u64 x] W fun r W' => r = .returned (.agg #[.bool n1, .int .i64 K1, .int .i64 X1, .int .u64 S1]) ∧ Below W.heap.size W W')) (HO2 : Hid (∀ W, Calls Try.prog 22 #[.int .i64 w, .int .u64 y] W fun r W' => r = .returned (.agg #[.bool n2, .int .i64 K2, .int .i64 X2, .int .u64 S2]) ∧ Below W.heap.size W W')) (a3 : (K1 == 3) = false) (b3 : (K2 == 3) = false) (a2 : (K1 == 2) = true) (b2 : (K2 == 2) = false) (a0 : (K1 == 0) = false)  (HC : Hid (∀ W, Calls Try.prog 24 #[.int .i64 w, .bool (n1 != n2)] W fun r W' => r = .returned (.int .u64 V) ∧ Below W.heap.size W W')) :
    Calls Try.prog 10 #[.int .i64 w, .int .u64 x, .int .u64 y] W fun r W' => r = .returned (.int .u64 V) ∧ Below W.heap.size W W' := by
  go_enter Try.func10, Try.ntmps10
  go_wp2_with fail
  refine (unhide HO1 _).mono ?_
  rintro _ w1 ⟨rfl, hb⟩
  have HB := hide (balloc hb (.cells #[.bool n1, .int .i64 K1, .int .i64 X1, .int .u64 S1] 45))
  have HA := hide (at4_new w1 (.bool n1) (.int .i64 K1) (.int .i64 X1) (.int .u64 S1) 45)
  clear hb
  go_wp2_with fail
  refine (unhide HO2 _).mono ?_
  rintro _ w2 ⟨rfl, hb⟩
  have HB := hide (balloc (bthen (unhide HB) hb) (.cells #[.bool n2, .int .i64 K2, .int .i64 X2, .int .u64 S2] 45))
  have HA := hide (((unhide HA).below hb).below (below1 _ (.cells #[.bool n2, .int .i64 K2, .int .i64 X2, .int .u64 S2] 45)))
  have HA2 := hide (at4_new w2 (.bool n2) (.int .i64 K2) (.int .i64 X2) (.int .u64 S2) 45)
  clear hb
  obtain ⟨c0, c1, -, -⟩ := unhide HA
  obtain ⟨d0, d1, -, -⟩ := unhide HA2
  go_wp2_with fail
  refine (unhide HC _).mono ?_
  rintro _ w3 ⟨rfl, hb⟩
  have HB := hide (bthen (unhide HB) hb)
  clear hb
  go_wp2_with fail
  go_ret
  exact ⟨rfl, unhide HB⟩
set_option maxRecDepth 100000 in
set_option maxHeartbeats 2000000 in
theorem refDivQ_i2 {w x y K1 X1 S1 K2 X2 S2 V : Int} {n1 n2 : Bool} (W : World) (HO1 : Hid (∀ W, Calls Try.prog 22 #[.int .i64 w, .int .u64 x] W fun r W' => r = .returned (.agg #[.bool n1, .int .i64 K1, .int .i64 X1, .int .u64 S1]) ∧ Below W.heap.size W W')) (HO2 : Hid (∀ W, Calls Try.prog 22 #[.int .i64 w, .int .u64 y] W fun r W' => r = .returned (.agg #[.bool n2, .int .i64 K2, .int .i64 X2, .int .u64 S2]) ∧ Below W.heap.size W W')) (a3 : (K1 == 3) = false) (b3 : (K2 == 3) = false) (a2 : (K1 == 2) = false) (a0 : (K1 == 0) = false) (b0 : (K2 == 0) = true)  (HC : Hid (∀ W, Calls Try.prog 24 #[.int .i64 w, .bool (n1 != n2)] W fun r W' => r = .returned (.int .u64 V) ∧ Below W.heap.size W W')) :
    Calls Try.prog 10 #[.int .i64 w, .int .u64 x, .int .u64 y] W fun r W' => r = .returned (.int .u64 V) ∧ Below W.heap.size W W' := by
  go_enter Try.func10, Try.ntmps10
  go_wp2_with fail
  refine (unhide HO1 _).mono ?_
  rintro _ w1 ⟨rfl, hb⟩
  have HB := hide (balloc hb (.cells #[.bool n1, .int .i64 K1, .int .i64 X1, .int .u64 S1] 45))
  have HA := hide (at4_new w1 (.bool n1) (.int .i64 K1) (.int .i64 X1) (.int .u64 S1) 45)
  clear hb
  go_wp2_with fail
  refine (unhide HO2 _).mono ?_
  rintro _ w2 ⟨rfl, hb⟩
  have HB := hide (balloc (bthen (unhide HB) hb) (.cells #[.bool n2, .int .i64 K2, .int .i64 X2, .int .u64 S2] 45))
  have HA := hide (((unhide HA).below hb).below (below1 _ (.cells #[.bool n2, .int .i64 K2, .int .i64 X2, .int .u64 S2] 45)))
  have HA2 := hide (at4_new w2 (.bool n2) (.int .i64 K2) (.int .i64 X2) (.int .u64 S2) 45)
  clear hb
  obtain ⟨c0, c1, -, -⟩ := unhide HA
  obtain ⟨d0, d1, -, -⟩ := unhide HA2
  go_wp2_with fail
  refine (unhide HC _).mono ?_
  rintro _ w3 ⟨rfl, hb⟩
  have HB := hide (bthen (unhide HB) hb)
  clear hb
  go_wp2_with fail
  go_ret
  exact ⟨rfl, unhide HB⟩
set_option maxRecDepth 100000 in
set_option maxHeartbeats 2000000 in
theorem refDivQ_z1 {w x y K1 X1 S1 K2 X2 S2 V : Int} {n1 n2 : Bool} (W : World) (HO1 : Hid (∀ W, Calls Try.prog 22 #[.int .i64 w, .int .u64 x] W fun r W' => r = .returned (.agg #[.bool n1, .int .i64 K1, .int .i64 X1, .int .u64 S1]) ∧ Below W.heap.size W W')) (HO2 : Hid (∀ W, Calls Try.prog 22 #[.int .i64 w, .int .u64 y] W fun r W' => r = .returned (.agg #[.bool n2, .int .i64 K2, .int .i64 X2, .int .u64 S2]) ∧ Below W.heap.size W W')) (a3 : (K1 == 3) = false) (b3 : (K2 == 3) = false) (a2 : (K1 == 2) = false) (a0 : (K1 == 0) = true) (b0 : (K2 == 0) = false)  (HC : Hid (∀ W, Calls Try.prog 18 #[.int .i64 w, .bool (n1 != n2), .int .i64 0, .int .u64 0] W fun r W' => r = .returned (.int .u64 V) ∧ Below W.heap.size W W')) :
    Calls Try.prog 10 #[.int .i64 w, .int .u64 x, .int .u64 y] W fun r W' => r = .returned (.int .u64 V) ∧ Below W.heap.size W W' := by
  go_enter Try.func10, Try.ntmps10
  go_wp2_with fail
  refine (unhide HO1 _).mono ?_
  rintro _ w1 ⟨rfl, hb⟩
  have HB := hide (balloc hb (.cells #[.bool n1, .int .i64 K1, .int .i64 X1, .int .u64 S1] 45))
  have HA := hide (at4_new w1 (.bool n1) (.int .i64 K1) (.int .i64 X1) (.int .u64 S1) 45)
  clear hb
  go_wp2_with fail
  refine (unhide HO2 _).mono ?_
  rintro _ w2 ⟨rfl, hb⟩
  have HB := hide (balloc (bthen (unhide HB) hb) (.cells #[.bool n2, .int .i64 K2, .int .i64 X2, .int .u64 S2] 45))
  have HA := hide (((unhide HA).below hb).below (below1 _ (.cells #[.bool n2, .int .i64 K2, .int .i64 X2, .int .u64 S2] 45)))
  have HA2 := hide (at4_new w2 (.bool n2) (.int .i64 K2) (.int .i64 X2) (.int .u64 S2) 45)
  clear hb
  obtain ⟨c0, c1, -, -⟩ := unhide HA
  obtain ⟨d0, d1, -, -⟩ := unhide HA2
  go_wp2_with fail
  refine (unhide HC _).mono ?_
  rintro _ w3 ⟨rfl, hb⟩
  have HB := hide (bthen (unhide HB) hb)
  clear hb
  go_wp2_with fail
  go_ret
  exact ⟨rfl, unhide HB⟩
set_option maxRecDepth 100000 in
set_option maxHeartbeats 2000000 in
theorem refDivQ_z2 {w x y K1 X1 S1 K2 X2 S2 V : Int} {n1 n2 : Bool} (W : World) (HO1 : Hid (∀ W, Calls Try.prog 22 #[.int .i64 w, .int .u64 x] W fun r W' => r = .returned (.agg #[.bool n1, .int .i64 K1, .int .i64 X1, .int .u64 S1]) ∧ Below W.heap.size W W')) (HO2 : Hid (∀ W, Calls Try.prog 22 #[.int .i64 w, .int .u64 y] W fun r W' => r = .returned (.agg #[.bool n2, .int .i64 K2, .int .i64 X2, .int .u64 S2]) ∧ Below W.heap.size W W')) (a3 : (K1 == 3) = false) (b3 : (K2 == 3) = false) (a2 : (K1 == 2) = false) (a0 : (K1 == 0) = false) (b0 : (K2 == 0) = false) (b2 : (K2 == 2) = true)  (HC : Hid (∀ W, Calls Try.prog 18 #[.int .i64 w, .bool (n1 != n2), .int .i64 0, .int .u64 0] W fun r W' => r = .returned (.int .u64 V) ∧ Below W.heap.size W W')) :
    Calls Try.prog 10 #[.int .i64 w, .int .u64 x, .int .u64 y] W fun r W' => r = .returned (.int .u64 V) ∧ Below W.heap.size W W' := by
  go_enter Try.func10, Try.ntmps10
  go_wp2_with fail
  refine (unhide HO1 _).mono ?_
  rintro _ w1 ⟨rfl, hb⟩
  have HB := hide (balloc hb (.cells #[.bool n1, .int .i64 K1, .int .i64 X1, .int .u64 S1] 45))
  have HA := hide (at4_new w1 (.bool n1) (.int .i64 K1) (.int .i64 X1) (.int .u64 S1) 45)
  clear hb
  go_wp2_with fail
  refine (unhide HO2 _).mono ?_
  rintro _ w2 ⟨rfl, hb⟩
  have HB := hide (balloc (bthen (unhide HB) hb) (.cells #[.bool n2, .int .i64 K2, .int .i64 X2, .int .u64 S2] 45))
  have HA := hide (((unhide HA).below hb).below (below1 _ (.cells #[.bool n2, .int .i64 K2, .int .i64 X2, .int .u64 S2] 45)))
  have HA2 := hide (at4_new w2 (.bool n2) (.int .i64 K2) (.int .i64 X2) (.int .u64 S2) 45)
  clear hb
  obtain ⟨c0, c1, -, -⟩ := unhide HA
  obtain ⟨d0, d1, -, -⟩ := unhide HA2
  go_wp2_with fail
  refine (unhide HC _).mono ?_
  rintro _ w3 ⟨rfl, hb⟩
  have HB := hide (bthen (unhide HB) hb)
  clear hb
  go_wp2_with fail
  go_ret
  exact ⟨rfl, unhide HB⟩
set_option maxRecDepth 100000 in
set_option maxHeartbeats 2000000 in
theorem refDivQ_fin {w x y K1 X1 S1 K2 X2 S2 E V : Int} {n1 n2 : Bool} (W : World) (HO1 : Hid (∀ W, Calls Try.prog 22 #[.int .i64 w, .int .u64 x] W fun r W' => r = .returned (.agg #[.bool n1, .int .i64 K1, .int .i64 X1, .int .u64 S1]) ∧ Below W.heap.size W W')) (HO2 : Hid (∀ W, Calls Try.prog 22 #[.int .i64 w, .int .u64 y] W fun r W' => r = .returned (.agg #[.bool n2, .int .i64 K2, .int .i64 X2, .int .u64 S2]) ∧ Below W.heap.size W W')) (a3 : (K1 == 3) = false) (b3 : (K2 == 3) = false) (a2 : (K1 == 2) = false) (a0 : (K1 == 0) = false) (b0 : (K2 == 0) = false) (b2 : (K2 == 2) = false) (HS : Hid (0 ≤ S1 ∧ S1 < 18446744073709551616 ∧ 0 ≤ S2 ∧ S2 < 18446744073709551616)) (kx : IntKind.i64.wrap (X1 - X2) = E) (HE : Hid (∀ (a : Option Addr) (m c : Nat) (a' : Option Addr) (m' c' : Nat) (W : World), IsNat W (.slice a m c) S1.toNat → IsNat W (.slice a' m' c') S2.toNat → Calls Try.prog 25 #[.int .i64 w, .bool (n1 != n2), .agg #[.slice a m c], .agg #[.slice a' m' c'], .int .i64 E] W fun r W' => r = .returned (.int .u64 V) ∧ Below W.heap.size W W')) :
    Calls Try.prog 10 #[.int .i64 w, .int .u64 x, .int .u64 y] W fun r W' => r = .returned (.int .u64 V) ∧ Below W.heap.size W W' := by
  go_enter Try.func10, Try.ntmps10
  go_wp2_with fail
  refine (unhide HO1 _).mono ?_
  rintro _ w1 ⟨rfl, hb⟩
  have HB := hide (balloc hb (.cells #[.bool n1, .int .i64 K1, .int .i64 X1, .int .u64 S1] 45))
  have HA := hide (at4_new w1 (.bool n1) (.int .i64 K1) (.int .i64 X1) (.int .u64 S1) 45)
  clear hb
  go_wp2_with fail
  refine (unhide HO2 _).mono ?_
  rintro _ w2 ⟨rfl, hb⟩
  have HB := hide (balloc (bthen (unhide HB) hb) (.cells #[.bool n2, .int .i64 K2, .int .i64 X2, .int .u64 S2] 45))
  have HA := hide (((unhide HA).below hb).below (below1 _ (.cells #[.bool n2, .int .i64 K2, .int .i64 X2, .int .u64 S2] 45)))
  have HA2 := hide (at4_new w2 (.bool n2) (.int .i64 K2) (.int .i64 X2) (.int .u64 S2) 45)
  clear hb
  obtain ⟨c0, c1, -, -⟩ := unhide HA
  obtain ⟨d0, d1, -, -⟩ := unhide HA2
  go_wp2_with fail
  clear c0 c1 d0 d1
  have HB := hide ((unhide HB).drew)
  have HA := hide ((unhide HA).below ((Below.refl _ _).drew))
  have HA2 := hide ((unhide HA2).below ((Below.refl _ _).drew))
  refine wp_region_held_drew (S := fun w' => (w'.cell? ⟨w1.heap.size, 0, none⟩ = some (.bool n1) ∧ w'.cell? ⟨w1.heap.size, 1, none⟩ = some (.int .i64 K1) ∧ w'.cell? ⟨w1.heap.size, 2, none⟩ = some (.int .i64 X1) ∧ w'.cell? ⟨w1.heap.size, 3, none⟩ = some (.int .u64 S1)) ∧ (w'.cell? ⟨w2.heap.size, 0, none⟩ = some (.bool n2) ∧ w'.cell? ⟨w2.heap.size, 1, none⟩ = some (.int .i64 K2) ∧ w'.cell? ⟨w2.heap.size, 2, none⟩ = some (.int .i64 X2) ∧ w'.cell? ⟨w2.heap.size, 3, none⟩ = some (.int .u64 S2))) (by kernel_rfl) ?_ (fun hHeld => ?_)
  · (try dsimp only)
    exact ⟨unhide HA, unhide HA2⟩
  refine anyH_at #[false, false, false, false, false, false, false, false, false, false, false, false, false, false, false] (by kernel_rfl) ?_
  refine wpAnyH_take (i := 0) (oi := { dst := some 73, op := _, type := _, pos := _, after := _, guard := _ }) (v := ?vv0) rfl (by kernel_rfl) (by kernel_rfl) (by kernel_rfl) (fun _ _ _ h => h) (Or.inl ⟨by rfl, ?hy0⟩) (by assumption) ?rest0
  case hy0 => ((intro w hSw; (try dsimp only at hSw); go_simp) <;> with_reducible rfl)
  case rest0 =>
    (try simp only [Act.put, List.setIfInBounds_toArray, List.set_cons_zero, List.set_cons_succ])
    refine anyH_at #[true, false, false, false, false, false, false, false, false, false, false, false, false, false, false] (by kernel_rfl) ?_
    refine wpAnyH_take (i := 1) (oi := { dst := some 74, op := _, type := _, pos := _, after := _, guard := _ }) (v := ?vv1) rfl (by kernel_rfl) (by kernel_rfl) (by kernel_rfl) (fun _ _ _ h => h) (Or.inl ⟨by rfl, ?hy1⟩) (by assumption) ?rest1
    case hy1 => ((intro w hSw; (try dsimp only at hSw); go_simp) <;> with_reducible rfl)
    case rest1 =>
      (try simp only [Act.put, List.setIfInBounds_toArray, List.set_cons_zero, List.set_cons_succ])
      refine anyH_at #[true, true, false, false, false, false, false, false, false, false, false, false, false, false, false] (by kernel_rfl) ?_
      refine wpAnyH_take (i := 2) (oi := { dst := some 75, op := _, type := _, pos := _, after := _, guard := _ }) (v := ?vv2) rfl (by kernel_rfl) (by kernel_rfl) (by kernel_rfl) (fun _ _ _ h => h) (Or.inl ⟨by rfl, ?hy2⟩) (by assumption) ?rest2
      case hy2 => ((intro w hSw; (try dsimp only at hSw); go_simp) <;> with_reducible rfl)
      case rest2 =>
        (try simp only [Act.put, List.setIfInBounds_toArray, List.set_cons_zero, List.set_cons_succ])
        refine anyH_at #[true, true, true, false, false, false, false, false, false, false, false, false, false, false, false] (by kernel_rfl) ?_
        refine wpAnyH_take (i := 3) (oi := { dst := some 76, op := _, type := _, pos := _, after := _, guard := _ }) (v := ?vv3) rfl (by kernel_rfl) (by kernel_rfl) (by kernel_rfl) (fun _ _ _ h => h) (Or.inl ⟨by rfl, ?hy3⟩) (by assumption) ?rest3
        case hy3 => ((intro w hSw; (try dsimp only at hSw); go_simp) <;> with_reducible rfl)
        case rest3 =>
          (try simp only [Act.put, List.setIfInBounds_toArray, List.set_cons_zero, List.set_cons_succ])
          refine anyH_at #[true, true, true, true, false, false, false, false, false, false, false, false, false, false, false] (by kernel_rfl) ?_
          refine wpAnyH_take (i := 5) (oi := { dst := some 78, op := _, type := _, pos := _, after := _, guard := _ }) (v := ?vv5) rfl (by kernel_rfl) (by kernel_rfl) (by kernel_rfl) (fun _ _ _ h => h) (Or.inl ⟨by rfl, ?hy5⟩) (by assumption) ?rest5
          case hy5 => ((intro w hSw; (try dsimp only at hSw); go_simp) <;> with_reducible rfl)
          case rest5 =>
            (try simp only [Act.put, List.setIfInBounds_toArray, List.set_cons_zero, List.set_cons_succ])
            refine anyH_at #[true, true, true, true, false, true, false, false, false, false, false, false, false, false, false] (by kernel_rfl) ?_
            refine wpAnyH_take (i := 6) (oi := { dst := some 79, op := _, type := _, pos := _, after := _, guard := _ }) (v := ?vv6) rfl (by kernel_rfl) (by kernel_rfl) (by kernel_rfl) (fun _ _ _ h => h) (Or.inl ⟨by rfl, ?hy6⟩) (by assumption) ?rest6
            case hy6 => ((intro w hSw; (try dsimp only at hSw); go_simp) <;> with_reducible rfl)
            case rest6 =>
              (try simp only [Act.put, List.setIfInBounds_toArray, List.set_cons_zero, List.set_cons_succ])
              refine anyH_at #[true, true, true, true, false, true, true, false, false, false, false, false, false, false, false] (by kernel_rfl) ?_
              refine wpAnyH_take (i := 8) (oi := { dst := some 81, op := _, type := _, pos := _, after := _, guard := _ }) (v := ?vv8) rfl (by kernel_rfl) (by kernel_rfl) (by kernel_rfl) (fun _ _ _ h => h) (Or.inl ⟨by rfl, ?hy8⟩) (by assumption) ?rest8
              case hy8 => ((intro w hSw; (try dsimp only at hSw); go_simp) <;> with_reducible rfl)
              case rest8 =>
                (try simp only [Act.put, List.setIfInBounds_toArray, List.set_cons_zero, List.set_cons_succ])
                refine anyH_at #[true, true, true, true, false, true, true, false, true, false, false, false, false, false, false] (by kernel_rfl) ?_
                refine wpAnyH_take (i := 9) (oi := { dst := some 82, op := _, type := _, pos := _, after := _, guard := _ }) (v := ?vv9) rfl (by kernel_rfl) (by kernel_rfl) (by kernel_rfl) (fun _ _ _ h => h) (Or.inl ⟨by rfl, ?hy9⟩) (by assumption) ?rest9
                case hy9 => ((intro w hSw; (try dsimp only at hSw); go_simp) <;> with_reducible rfl)
                case rest9 =>
                  (try simp only [Act.put, List.setIfInBounds_toArray, List.set_cons_zero, List.set_cons_succ])
                  refine anyH_at #[true, true, true, true, false, true, true, false, true, true, false, false, false, false, false] (by kernel_rfl) ?_
                  refine wpAnyH_take (i := 10) (oi := { dst := some 83, op := _, type := _, pos := _, after := _, guard := _ }) (v := ?vv10) rfl (by kernel_rfl) (by kernel_rfl) (by kernel_rfl) (fun _ _ _ h => h) (Or.inl ⟨by rfl, ?hy10⟩) (by assumption) ?rest10
                  case hy10 => ((intro w hSw; (try dsimp only at hSw); go_simp) <;> with_reducible rfl)
                  case rest10 =>
                    (try simp only [Act.put, List.setIfInBounds_toArray, List.set_cons_zero, List.set_cons_succ])
                    refine anyH_at #[true, true, true, true, false, true, true, false, true, true, true, false, false, false, false] (by kernel_rfl) ?_
                    refine wpAnyH_take (i := 11) (oi := { dst := some 84, op := _, type := _, pos := _, after := _, guard := _ }) (v := ?vv11) rfl (by kernel_rfl) (by kernel_rfl) (by kernel_rfl) (fun _ _ _ h => h) (Or.inl ⟨by rfl, ?hy11⟩) (by assumption) ?rest11
                    case hy11 => ((intro w hSw; (try dsimp only at hSw); go_simp) <;> with_reducible rfl)
                    case rest11 =>
                      (try simp only [Act.put, List.setIfInBounds_toArray, List.set_cons_zero, List.set_cons_succ])
                      refine anyH_at #[true, true, true, true, false, true, true, false, true, true, true, true, false, false, false] (by kernel_rfl) ?_
                      refine wpAnyH_take (i := 12) (oi := { dst := some 85, op := _, type := _, pos := _, after := _, guard := _ }) (v := ?vv12) rfl (by kernel_rfl) (by kernel_rfl) (by kernel_rfl) (fun _ _ _ h => h) (Or.inl ⟨by rfl, ?hy12⟩) (by assumption) ?rest12
                      case hy12 => ((intro w hSw; (try dsimp only at hSw); go_simp) <;> with_reducible rfl)
                      case rest12 =>
                        (try simp only [Act.put, List.setIfInBounds_toArray, List.set_cons_zero, List.set_cons_succ])
                        refine anyH_at #[true, true, true, true, false, true, true, false, true, true, true, true, true, false, false] (by kernel_rfl) ?_
                        refine wpAnyH_ready (rs := [4]) (by kernel_rfl) (by simp) ?_
                        refine AllReadyH.cons (o := { dst := some 77, op := _, type := _, pos := _, after := _, guard := _ }) rfl (fun Kk hKk => ?_) AllReadyH.nil
                        go_simp
                        refine (refOf_any S1 _ (unhide HS).1 (unhide HS).2.1).mono ?_
                        rintro _ w3 ⟨s3, rfl, hN, hbl⟩
                        obtain ⟨a3, m3, c3, rfl⟩ := hN.slice
                        have HB := hide (bthen (unhide HB) hbl)
                        have HA := hide ((unhide HA).below hbl)
                        have HA2 := hide ((unhide HA2).below hbl)
                        have H3 := hide hN
                        clear hbl hN
                        (try go_wp2_with fail)
                        refine hKk.out _ _ ?_ (fun hHeld => ?_)
                        · (try dsimp only)
                          exact ⟨unhide HA, unhide HA2⟩
                        clear hKk Kk
                        (try simp only [List.setIfInBounds_toArray, List.set_cons_zero, List.set_cons_succ])
                        refine anyH_at #[true, true, true, true, true, true, true, false, true, true, true, true, true, false, false] (by kernel_rfl) ?_
                        refine wpAnyH_ready (rs := [7]) (by kernel_rfl) (by simp) ?_
                        refine AllReadyH.cons (o := { dst := some 80, op := _, type := _, pos := _, after := _, guard := _ }) rfl (fun Kk hKk => ?_) AllReadyH.nil
                        go_simp
                        refine (refOf_any S2 _ (unhide HS).2.2.1 (unhide HS).2.2.2).mono ?_
                        rintro _ w4 ⟨s4, rfl, hN, hbl⟩
                        obtain ⟨a4, m4, c4, rfl⟩ := hN.slice
                        have HB := hide (bthen (unhide HB) hbl)
                        have HA := hide ((unhide HA).below hbl)
                        have HA2 := hide ((unhide HA2).below hbl)
                        have H3 := hide ((unhide H3).below hbl)
                        have H4 := hide hN
                        clear hbl hN
                        (try go_wp2_with fail)
                        refine hKk.out _ _ ?_ (fun hHeld => ?_)
                        · (try dsimp only)
                          exact ⟨unhide HA, unhide HA2⟩
                        clear hKk Kk
                        (try simp only [List.setIfInBounds_toArray, List.set_cons_zero, List.set_cons_succ])
                        refine anyH_at #[true, true, true, true, true, true, true, true, true, true, true, true, true, false, false] (by kernel_rfl) ?_
                        refine wpAnyH_ready (rs := [13]) (by kernel_rfl) (by simp) ?_
                        refine AllReadyH.cons (o := { dst := some 86, op := _, type := _, pos := _, after := _, guard := _ }) rfl (fun Kk hKk => ?_) AllReadyH.nil
                        go_simp
                        refine (unhide HE _ _ _ _ _ _ _ (unhide H3) (unhide H4)).mono ?_
                        rintro _ w6 ⟨rfl, hbl⟩
                        have HB := hide (bthen (unhide HB) hbl)
                        have HA := hide ((unhide HA).below hbl)
                        have HA2 := hide ((unhide HA2).below hbl)
                        clear hbl
                        (try go_wp2_with fail)
                        refine hKk.out _ _ ?_ (fun hHeld => ?_)
                        · (try dsimp only)
                          exact ⟨unhide HA, unhide HA2⟩
                        clear hKk Kk
                        (try simp only [List.setIfInBounds_toArray, List.set_cons_zero, List.set_cons_succ])
                        refine anyH_at #[true, true, true, true, true, true, true, true, true, true, true, true, true, true, false] (by kernel_rfl) ?_
                        refine wpAnyH_take (i := 14) (oi := { dst := some 6, op := _, type := _, pos := _, after := _, guard := _ }) (v := ?vv14) rfl (by kernel_rfl) (by kernel_rfl) (by kernel_rfl) (fun _ _ _ h => h) (Or.inl ⟨by rfl, ?hy14⟩) (by assumption) ?rest14
                        case hy14 => ((intro w hSw; (try dsimp only at hSw); go_simp) <;> with_reducible rfl)
                        case rest14 =>
                          (try simp only [Act.put, List.setIfInBounds_toArray, List.set_cons_zero, List.set_cons_succ])
                          refine anyH_at #[true, true, true, true, true, true, true, true, true, true, true, true, true, true, true] (by kernel_rfl) ?_
                          refine wpAnyH_done (by kernel_rfl) ?_ _
                          go_wp2
                          go_ret
                          exact ⟨rfl, unhide HB⟩

end Go.Proofs.Ytcgnlpamfhdiiaa
namespace Go.Proofs.Ytcgnlpamfhdiiaa
open Go.RowKit
open Go.Proofs.Ytcgnlpamfhdiiaa.W

set_option maxRecDepth 100000 in
set_option maxHeartbeats 2000000 in
theorem scale_oth {w x N X S V K : Int} {n : Bool} (W : World) (k1 : (K == 1) = false) (HO : Hid (∀ W, Calls Try.prog 13 #[.int .i64 w, .int .u64 x] W fun r W' => r = .returned (.agg #[.bool n, .int .i64 K, .int .i64 X, .int .u64 S]) ∧ Below W.heap.size W W')) (HC : Hid (∀ W, Calls Try.prog 38 #[.int .i64 w, .agg #[.bool n, .int .i64 K, .int .i64 X, .int .u64 S]] W fun r W' => r = .returned (.int .u64 V) ∧ Below W.heap.size W W')) :
    Calls Try.prog 19 #[.int .i64 w, .int .u64 x, .int .i64 N] W fun r W' => r = .returned (.int .u64 V) ∧ Below W.heap.size W W' := by
  go_enter Try.func19, Try.ntmps19
  go_wp2_with fail
  refine (unhide HO _).mono ?_
  rintro _ w1 ⟨rfl, hb⟩
  have HB := hide (balloc hb (.cells #[.bool n, .int .i64 K, .int .i64 X, .int .u64 S] 31))
  clear hb
  go_wp2_with fail
  refine (unhide HC _).mono ?_
  rintro _ w2 ⟨rfl, hb⟩
  have HB := hide (bthen (unhide HB) hb)
  clear hb
  go_wp2_with fail
  go_ret
  exact ⟨rfl, unhide HB⟩
set_option maxRecDepth 100000 in
set_option maxHeartbeats 2000000 in
theorem scale_mid {w x N X S V E : Int} {n : Bool} (W : World) (hn : ¬ N < -4096) (hm : ¬ 4096 < N) (kx : IntKind.i64.wrap (X + N) = E) (HO : Hid (∀ W, Calls Try.prog 13 #[.int .i64 w, .int .u64 x] W fun r W' => r = .returned (.agg #[.bool n, .int .i64 1, .int .i64 X, .int .u64 S]) ∧ Below W.heap.size W W')) (HC : Hid (∀ W, Calls Try.prog 38 #[.int .i64 w, .agg #[.bool n, .int .i64 1, .int .i64 E, .int .u64 S]] W fun r W' => r = .returned (.int .u64 V) ∧ Below W.heap.size W W')) :
    Calls Try.prog 19 #[.int .i64 w, .int .u64 x, .int .i64 N] W fun r W' => r = .returned (.int .u64 V) ∧ Below W.heap.size W W' := by
  go_enter Try.func19, Try.ntmps19
  go_wp2_with fail
  refine (unhide HO _).mono ?_
  rintro _ w1 ⟨rfl, hb⟩
  have HB := hide (balloc hb (.cells #[.bool n, .int .i64 1, .int .i64 E, .int .u64 S] 31))
  clear hb
  go_wp2_with fail
  refine (unhide HC _).mono ?_
  rintro _ w2 ⟨rfl, hb⟩
  have HB := hide (bthen (unhide HB) hb)
  clear hb
  go_wp2_with fail
  go_ret
  exact ⟨rfl, unhide HB⟩
end Go.Proofs.Ytcgnlpamfhdiiaa
namespace Go.Proofs.Ytcgnlpamfhdiiaa.W

theorem dg_set {D : List Nat} {j e i : Nat} (h : j < D.length) : dg (D.set j e) i = if j = i then e else dg D i := by
  unfold dg
  by_cases hji : j = i
  · subst hji
    simp [List.getD_eq_getElem?_getD, h]
  · simp [List.getD_eq_getElem?_getD, hji]

end Go.Proofs.Ytcgnlpamfhdiiaa.W
namespace Go.Proofs.Ytcgnlpamfhdiiaa.W
open Go.RowKit

/-- A made row of digits, of this length, in a block of its own. -/
structure Buf (g L : Nat) (D : List Nat) (w : World) : Prop where
  len : D.length = L
  size : g < w.heap.size
  cell : ∀ j, j < L → w.cell? ⟨g, j, none⟩ = some (.int .u64 ((dg D j : Nat) : Int))
  thawed : ∀ j, w.frozen? ⟨g, j, none⟩ = false

theorem Buf.store {g L j e : Nat} {D : List Nat} {w : World} (h : Buf g L D w) (hj : j < L) : Buf g L (D.set j e) (w.setCell ⟨g, j, none⟩ (.int .u64 ((e : Nat) : Int))) := by
  have hl := h.len
  refine ⟨by simpa using h.len, by simpa using h.size, fun i hi => ?_, fun i => by rw [World.frozen?_setCell]; exact h.thawed i⟩
  rw [dg_set (by omega)]
  by_cases hji : j = i
  · subst hji
    rw [if_pos rfl]
    exact World.cell?_setCell_same _ _ _ (h.cell j hj)
  · rw [if_neg hji, World.cell?_setCell_other _ _ _ _ (by intro he; injection he with he1 he2; exact hji he2)]
    exact h.cell i hi
theorem Buf.holds {g L : Nat} {D : List Nat} {w : World} (h : Buf g L D w) (hL : L ≤ 1000000) : Holds w (.slice (some ⟨g, 0, none⟩) L L) D := by
  obtain ⟨rfl, h2, h3, _⟩ := h
  exact Or.inr ⟨g, _, rfl, h2, Nat.le_refl _, hL, h3⟩
theorem made_cells (L i : Nat) (h : i < L) : (madeCells #[.int .u64 0] L)[i]? = some (.int .u64 0) := by
  have := toList_madeCells_one (.int .u64 0) L
  rw [← Array.getElem?_toList, this]
  simp [h]
theorem Buf.made (w : World) (L : Nat) : Buf w.heap.size L (List.replicate L 0) (w.alloc (.cells (madeCells #[.int .u64 0] L) 22)) := by
  refine ⟨by simp, by simp, fun j hj => ?_, fun j => by simp [go_sem]⟩
  rw [World.cell?_alloc_new, made_cells L j hj]
  simp [dg, hj]
theorem Buf.drewN {g L : Nat} {D : List Nat} {w : World} (h : Buf g L D w) (k : Nat) : Buf g L D (w.drewN k) := by
  have hb : Below w.heap.size w (w.drewN k) := below_drewN (Below.refl _ _) k
  exact ⟨h.len, Nat.lt_of_lt_of_le h.size hb.size, fun j hj => by rw [hb.cell (p := ⟨g, j, none⟩) h.size]; exact h.cell j hj, fun j => by rw [hb.frozen (p := ⟨g, j, none⟩) h.size]; exact h.thawed j⟩

end Go.Proofs.Ytcgnlpamfhdiiaa.W
namespace Go.Proofs.Ytcgnlpamfhdiiaa
open Go.RowKit
open Go.Proofs.Ytcgnlpamfhdiiaa.W

set_option maxRecDepth 100000 in
set_option maxHeartbeats 2000000 in
theorem one_l {w B V : Int} (W : World) (HB0 : Hid (∀ W, Calls Try.prog 17 #[.int .i64 w] W fun r W' => r = .returned (.int .i64 B) ∧ Below W.heap.size W W')) (HM : Hid (∀ W, Calls Try.prog 18 #[.int .i64 w, .bool false, .int .i64 B, .int .u64 0] W fun r W' => r = .returned (.int .u64 V) ∧ Below W.heap.size W W')) :
    Calls Try.prog 11 #[.int .i64 w] W fun r W' => r = .returned (.int .u64 V) ∧ Below W.heap.size W W' := by
  go_enter Try.func11, Try.ntmps11
  go_wp2_with fail
  refine (unhide HB0 _).mono ?_
  rintro _ w1 ⟨rfl, hb1⟩
  go_wp2_with fail
  refine (unhide HM _).mono ?_
  rintro _ w2 ⟨rfl, hb2⟩
  go_wp2_with fail
  go_ret
  exact ⟨rfl, bthen hb1 hb2⟩

end Go.Proofs.Ytcgnlpamfhdiiaa
namespace Go.Proofs.Ytcgnlpamfhdiiaa
open Go.RowKit
open Go.Proofs.Ytcgnlpamfhdiiaa.W

theorem pack_wide {w e f P Q b E : Int} (k : Kd w e f P Q b) (n : Bool) (v : Nat) (hv : W2 v) (h0 : -4000 ≤ E) (h1 : E ≤ 4000) (W : World) :
    Calls Try.prog 44 #[.int .i64 w, .bool n, .agg #[.int .u64 (hi v), .int .u64 (lo v)], .int .i64 E, .bool false] W fun r W' => r = .returned (.int .u64 (rd f P Q b n (v * 2 ^ (E + 5000).toNat))) ∧ Below W.heap.size W W' := by
  have := pack_known v n false E k hv W
  rw [cap_id (by omega) (by omega), num_plain _ _ (by omega)] at this
  exact this
theorem exact_wide {w e f P Q b low : Int} (k : Kd w e f P Q b) (n : Bool) (z : Nat) (h0 : -4000 ≤ low) (h1 : low ≤ 4000) : exactN f P Q b n z low = rd f P Q b n (z * 2 ^ (low + 5000).toNat) := by
  unfold exactN
  by_cases hz : z = 0
  · rw [if_pos (Or.inl hz), hz, Nat.zero_mul, rd_zero k]
  · rw [if_neg (by omega), if_neg (by omega)]
    rfl
/-- Far below the least float. -/
theorem rd_tiny {w e f P Q b E : Int} (k : Kd w e f P Q b) (n : Bool) (v : Nat) (hv : v < 9007199254740992) (hE : E ≤ -2800) : rd f P Q b n (v * 2 ^ (E + 5000).toNat) = put f P Q n 0 0 := by
  obtain ⟨hP, f0, f1, l0, l1, b0, b1⟩ := k.pow
  refine zero_code k n ?_
  by_cases h0 : v = 0
  · rw [h0, Nat.zero_mul, code_zero]
  · refine code_tiny ?_
    rw [bl_shl _ _ (by omega)]
    have h1 : ¬ 53 < Go.bitLen v := fun h => by
      have := bl_ge h
      omega
    unfold lowN
    omega
/-- Far above the greatest one. -/
theorem rd_huge {w e f P Q b E : Int} (k : Kd w e f P Q b) (n : Bool) (v : Nat) (hv : 0 < v) (hE : 2800 ≤ E) : rd f P Q b n (v * 2 ^ (E + 5000).toNat) = put f P Q n (Q - 1) 0 := by
  obtain ⟨hP, f0, f1, l0, l1, b0, b1⟩ := k.pow
  refine inf_code k n ?_
  rw [bl_shl _ _ (by omega)]
  unfold lowN
  omega
/-- A power of two, brought near. -/
def clamp (c N : Int) : Int := if N < -c then -c else if c < N then c else N
/-- A finite float times a power of two: the program's number is the reference's. -/
theorem scale_num {w e f P Q b X S : Int} (k : Kd w e f P Q b) (n : Bool) (N : Int) (h : Prt f P Q b 1 X S) :
    narrowN f P Q b n 1 (X + clamp 4096 N) S = exactN f P Q b n S.toNat (X + clamp 9000 N) := by
  obtain ⟨x0, x1, s0, -, s1⟩ := h.in k
  have hS : 0 < S := by unfold Prt at h; omega
  unfold narrowN
  rw [if_neg (by omega), if_pos rfl]
  have hc := cap_in (X + clamp 4096 N)
  rw [num_plain _ _ (by omega)]
  show rd f P Q b n (S.toNat * 2 ^ (cap (X + clamp 4096 N) + 5000).toNat) = _
  by_cases hlo : X + clamp 9000 N ≤ -2800
  · have h4 : cap (X + clamp 4096 N) ≤ -2800 := by
      unfold clamp at hlo ⊢
      unfold cap
      split at hlo <;> (try split at hlo) <;> split <;> (try split) <;> (try split) <;> (try split) <;> omega
    rw [rd_tiny k n _ (by omega) h4]
    unfold exactN
    by_cases h5 : X + clamp 9000 N < -4000
    · rw [if_pos (Or.inr h5)]
    · rw [if_neg (by omega), if_neg (by omega)]
      exact (rd_tiny k n _ (by omega) hlo).symm
  · by_cases hhi : 2800 ≤ X + clamp 9000 N
    · have h4 : 2800 ≤ cap (X + clamp 4096 N) := by
        unfold clamp at hhi ⊢
        unfold cap
        split at hhi <;> (try split at hhi) <;> split <;> (try split) <;> (try split) <;> (try split) <;> omega
      rw [rd_huge k n _ (by omega) h4]
      unfold exactN
      rw [if_neg (by omega)]
      by_cases h5 : 4000 < X + clamp 9000 N
      · rw [if_pos h5]
      · rw [if_neg h5]
        exact (rd_huge k n _ (by omega) hhi).symm
    · have h4 : cap (X + clamp 4096 N) = X + clamp 9000 N := by
        unfold clamp at hlo hhi ⊢
        unfold cap
        split at hlo <;> (try split at hlo) <;> split <;> (try split) <;> (try split) <;> (try split) <;> omega
      rw [h4, exact_wide k n _ (by omega) (by omega)]

theorem clamp_id {c N : Int} (h0 : -c ≤ N) (h1 : N ≤ c) : clamp c N = N := by unfold clamp; rw [if_neg (by omega), if_neg (by omega)]

/-- One, of the program and of the reference. -/
theorem whole_one {w e f P Q b : Int} (k : Kd w e f P Q b) (W : World) :
    Calls Try.prog 21 #[.int .i64 w, .bool false, .int .u64 1] W fun r W' => r = .returned (.int .u64 (put f P Q false b 0)) ∧ Below W.heap.size W W' := by
  have h1 : rd f P Q b false ((1 : Int).toNat * 2 ^ ((0 : Int) + 5000).toNat) = put f P Q false b 0 := by
    obtain ⟨r0, r1, h1, h2, h3⟩ := pow_open (j := 0) k (by omega) (by omega)
    rw [Int.add_zero] at r0 r1 h1 h2 h3
    obtain ⟨g1, g2⟩ := oM_fin (x := put f P Q false b 0) k ⟨by omega, by omega⟩
    have hb : 0 ≤ b ∧ b < Q := by rcases k with ⟨-, -, -, -, rfl, rfl⟩ | ⟨-, -, -, -, rfl, rfl⟩ <;> omega
    obtain ⟨p1, p2, q1, q2⟩ := k.pos
    have hc : cutN f P Q (put f P Q false b 0) = put f P Q false b 0 := by
      obtain ⟨-, -, c2, c3, c4⟩ := put_in (n := false) (x := b) (y := 0) k hb.1 hb.2 (by omega) (by omega)
      rw [← cut_put k.wd.sz, c2, c3, c4]
    rw [show ((0 : Int) + 5000).toNat = Z5 + (0 : Int).toNat by unfold Z5; omega, show (1 : Int).toNat = 1 from rfl, Nat.one_mul, ← h3, g1, rd_val k _ g2]
    have := cut_fl k (x := put f P Q false b 0) (by omega)
    rw [hc, h2] at this
    exact this.symm
  have := fun W => pack_wide k false (1 : Int).toNat (E := 0) (small_w2 (by omega) (by omega)) (by omega) (by omega) W
  rw [h1] at this
  exact whole_f W (hide (fun W => of_n 1 W (by omega) (by omega))) (hide this)
theorem whole_none {w e f P Q b : Int} (k : Wd w e f P Q b) (hf : f = 0) (W : World) :
    Calls Try.prog 21 #[.int .i64 w, .bool false, .int .u64 1] W fun r W' => r = .returned (.int .u64 0) ∧ Below W.heap.size W W' :=
  whole_f W (hide (fun W => of_n 1 W (by omega) (by omega))) (hide (fun W => pack_no (1 : Int).toNat false false 0 k hf (small_w2 (by omega) (by omega)) W))
theorem refOne_any {w e f P Q b : Int} (k : Kd w e f P Q b) (W : World) :
    Calls Try.prog 11 #[.int .i64 w] W fun r W' => r = .returned (.int .u64 (put f P Q false b 0)) ∧ Below W.heap.size W W' := by
  obtain ⟨p1, p2, q1, q2⟩ := k.pos
  have hb : 0 ≤ b ∧ b < Q := by rcases k with ⟨-, -, -, -, rfl, rfl⟩ | ⟨-, -, -, -, rfl, rfl⟩ <;> omega
  exact one_l W (hide (fun W => refB_any k W)) (hide (fun W => make_any false b 0 k W hb.1 hb.2 (by omega) (by omega)))

end Go.Proofs.Ytcgnlpamfhdiiaa
namespace Go.Proofs.Ytcgnlpamfhdiiaa
open Go.RowKit
open Go.Proofs.Ytcgnlpamfhdiiaa.W

theorem isNone_t {w K1 X1 S1 K2 X2 S2 : Int} {n1 n2 : Bool} (h : K1 = 3 ∨ K2 = 3 ∨ (K1 = 2 ∧ K2 = 2) ∨ (K1 = 0 ∧ K2 = 0)) (W : World) :
    Calls Try.prog 39 #[.agg #[.bool n1, .int .i64 K1, .int .i64 X1, .int .u64 S1, .bool n2, .int .i64 K2, .int .i64 X2, .int .u64 S2, .int .i64 w]] W fun r W' => r = .returned (.bool true) ∧ Below W.heap.size W W' := by
  by_cases he : K1 = K2
  · have := isNone_same (w := w) (X1 := X1) (S1 := S1) (X2 := X2) (S2 := S2) (n1 := n1) (n2 := n2) W (eq_t he)
    rw [ne_t (show K1 ≠ 1 by omega)] at this
    exact this
  · by_cases h3 : K1 = 3
    · exact isNone_one W (eq_f he) (eq_t h3)
    · have := isNone_two (w := w) (X1 := X1) (S1 := S1) (X2 := X2) (S2 := S2) (n1 := n1) (n2 := n2) W (eq_f he) (eq_f h3)
      rw [eq_t (show K2 = 3 by omega)] at this
      exact this
theorem isNone_f {w K1 X1 S1 K2 X2 S2 : Int} {n1 n2 : Bool} (hK1 : K1 = 0 ∨ K1 = 1 ∨ K1 = 2 ∨ K1 = 3) (h : ¬ (K1 = 3 ∨ K2 = 3 ∨ (K1 = 2 ∧ K2 = 2) ∨ (K1 = 0 ∧ K2 = 0))) (W : World) :
    Calls Try.prog 39 #[.agg #[.bool n1, .int .i64 K1, .int .i64 X1, .int .u64 S1, .bool n2, .int .i64 K2, .int .i64 X2, .int .u64 S2, .int .i64 w]] W fun r W' => r = .returned (.bool false) ∧ Below W.heap.size W W' := by
  by_cases he : K1 = K2
  · have := isNone_same (w := w) (X1 := X1) (S1 := S1) (X2 := X2) (S2 := S2) (n1 := n1) (n2 := n2) W (eq_t he)
    rw [ne_f (show K1 = 1 by omega)] at this
    exact this
  · have := isNone_two (w := w) (X1 := X1) (S1 := S1) (X2 := X2) (S2 := S2) (n1 := n1) (n2 := n2) W (eq_f he) (eq_f (by omega))
    rw [eq_f (show K2 ≠ 3 by omega)] at this
    exact this

theorem shl_full {S1 : Int} {up : Nat} (hup : up + Go.bitLen S1.toNat = 128) : S1.toNat * 2 ^ up < 340282366920938463463374607431768211456 := by
  by_cases h0 : S1.toNat = 0
  · rw [h0, Nat.zero_mul]
    omega
  · have := bl_lt (x := S1.toNat * 2 ^ up) (k := 128) (by rw [bl_shl _ _ h0]; omega)
    omega

theorem quoFin_any {w e f P Q b X1 S1 X2 S2 : Int} (k : Kd w e f P Q b) (n1 n2 : Bool) (h1 : Prt f P Q b 1 X1 S1) (h2 : Prt f P Q b 1 X2 S2) (W : World) :
    Calls Try.prog 20 #[.agg #[.bool n1, .int .i64 1, .int .i64 X1, .int .u64 S1, .bool n2, .int .i64 1, .int .i64 X2, .int .u64 S2, .int .i64 w]] W fun r W' => r = .returned (.int .u64 (rdQ f P Q b (n1 != n2) (S1.toNat * 2 ^ (X1 - X2 + 5000).toNat) S2.toNat)) ∧ Below W.heap.size W W' := by
  obtain ⟨x0, x1, s0, -, s1⟩ := h1.in k
  obtain ⟨y0, y1, t0, -, t1⟩ := h2.in k
  have hS2 : 0 < S2 := by unfold Prt at h2; omega
  have hbl := bl_64 (x := S1.toNat) (by omega)
  obtain ⟨up, hup⟩ : ∃ up : Nat, up + Go.bitLen S1.toNat = 128 := ⟨128 - Go.bitLen S1.toNat, by omega⟩
  have hw2 : W2 S1.toNat := by unfold W2; omega
  have hv2 : W2 (S1.toNat * 2 ^ up) := shl_full hup
  have hs : shlN S1.toNat (up : Int) = S1.toNat * 2 ^ up := by
    unfold shlN
    rw [Int.toNat_natCast, Nat.mod_eq_of_lt (shl_full hup)]
  have hU : IntKind.i64.wrap (128 - (Go.bitLen S1.toNat : Int)) = (up : Int) := by rw [i64_id (by omega) (by omega)]; omega
  have hE : IntKind.i64.wrap (X1 - (up : Int)) = X1 - up := i64_id (by omega) (by omega)
  have hY : IntKind.i64.wrap (X1 - (up : Int) - X2) = X1 - up - X2 := i64_id (by omega) (by omega)
  have HL := fun W => left_n S1.toNat (up : Int) W hw2
  rw [hs] at HL
  have HI := fun W => into_l (K2 := 1) (X2 := X2) (n2 := n2) W (hide (fun W => div_n (S1.toNat * 2 ^ up) S2 W hv2 hS2 (by omega)))
  have HP := fun W => pack_known (S1.toNat * 2 ^ up / S2.toNat) (n1 != n2) (((S1.toNat * 2 ^ up % S2.toNat : Nat) : Int) != 0) (X1 - up - X2) k (Nat.lt_of_le_of_lt (Nat.div_le_self _ _) hv2) W
  rw [quo_pack k h1 h2 up hup _ (by
    by_cases hr : S1.toNat * 2 ^ up % S2.toNat = 0
    · rw [hr]; rfl
    · rw [show (S1.toNat * 2 ^ up % S2.toNat != 0) = true by simpa using hr, ne_t (by omega)])] at HP
  exact nearestQ_fin W (hide (fun W => isNone_f (by omega) (by omega) W)) (hide (fun W => isNeg_l W)) (by rfl) (by rfl) (by rfl) (by rfl)
    (hide (fun W => raised_l W (hide (fun W => of_n S1 W s0 (by omega))) (hide (fun W => len_n S1.toNat W hw2)) hU (hide HL) hE)) (hide HI) hY (hide HP)

theorem quo_any {w e f P Q b K1 X1 S1 K2 X2 S2 : Int} (k : Kd w e f P Q b) (n1 n2 : Bool) (h1 : Prt f P Q b K1 X1 S1) (h2 : Prt f P Q b K2 X2 S2) (W : World) :
    Calls Try.prog 20 #[.agg #[.bool n1, .int .i64 K1, .int .i64 X1, .int .u64 S1, .bool n2, .int .i64 K2, .int .i64 X2, .int .u64 S2, .int .i64 w]] W fun r W' => r = .returned (.int .u64 (divP f P Q b n1 K1 (mag X1 S1) n2 K2 (mag X2 S2))) ∧ Below W.heap.size W W' := by
  obtain ⟨x0, x1, s0, -, s1⟩ := h1.in k
  obtain ⟨y0, y1, t0, -, t1⟩ := h2.in k
  have hK1 : K1 = 0 ∨ K1 = 1 ∨ K1 = 2 ∨ K1 = 3 := by unfold Prt at h1; omega
  have hK2 : K2 = 0 ∨ K2 = 1 ∨ K2 = 2 ∨ K2 = 3 := by unfold Prt at h2; omega
  by_cases a : K1 = 3 ∨ K2 = 3 ∨ (K1 = 2 ∧ K2 = 2) ∨ (K1 = 0 ∧ K2 = 0)
  · rw [show divP f P Q b n1 K1 (mag X1 S1) n2 K2 (mag X2 S2) = nanB f P Q by unfold divP; rw [if_pos a]]
    exact nearestQ_nan W (hide (fun W => isNone_t a W)) (hide (fun W => nan_any k.wd W))
  have HN := hide (fun W => isNone_f (w := w) (X1 := X1) (S1 := S1) (X2 := X2) (S2 := S2) (n1 := n1) (n2 := n2) hK1 a W)
  have HG := hide (fun W => isNeg_l (w := w) (K1 := K1) (X1 := X1) (S1 := S1) (K2 := K2) (X2 := X2) (S2 := S2) (n1 := n1) (n2 := n2) W)
  by_cases c : K1 = 2 ∨ K2 = 0
  · rw [show divP f P Q b n1 K1 (mag X1 S1) n2 K2 (mag X2 S2) = put f P Q (n1 != n2) (Q - 1) 0 by unfold divP; rw [if_neg a, if_pos c]]
    by_cases a2 : K1 = 2
    · exact nearestQ_i1 W HN HG (eq_t a2) (hide (fun W => inf_any _ k.wd W))
    · exact nearestQ_i2 W HN HG (eq_f a2) (eq_t (by omega)) (hide (fun W => inf_any _ k.wd W))
  · by_cases d : K1 = 0 ∨ K2 = 2
    · rw [show divP f P Q b n1 K1 (mag X1 S1) n2 K2 (mag X2 S2) = put f P Q (n1 != n2) 0 0 by unfold divP; rw [if_neg a, if_neg c, if_pos d]]
      by_cases a0 : K1 = 0
      · exact nearestQ_z1 W HN HG (eq_f (by omega)) (eq_f (by omega)) (eq_t a0) (hide (fun W => zero_any _ k.wd W))
      · exact nearestQ_z2 W HN HG (eq_f (by omega)) (eq_f (by omega)) (eq_f a0) (eq_t (by omega)) (hide (fun W => zero_any _ k.wd W))
    · rw [show divP f P Q b n1 K1 (mag X1 S1) n2 K2 (mag X2 S2) = rdQ f P Q b (n1 != n2) (mag X1 S1 * 2 ^ Z5) (mag X2 S2) by unfold divP; rw [if_neg a, if_neg c, if_neg d], mag_div f P Q b _ x0 y0 y1]
      obtain rfl : K1 = 1 := by omega
      obtain rfl : K2 = 1 := by omega
      exact quoFin_any k n1 n2 h1 h2 W

theorem div_any {w e f P Q b x y : Int} (k : Kd w e f P Q b) (W : World) (x0 : 0 ≤ x) (x1 : x < 18446744073709551616) (y0 : 0 ≤ y) (y1 : y < 18446744073709551616) :
    Calls Try.prog 7 #[.int .i64 w, .int .u64 x, .int .u64 y] W fun r W' => r = .returned (.int .u64 (divB f P Q b x y)) ∧ Below W.heap.size W W' := by
  obtain ⟨X1, S1, o1, p1, m1⟩ := open_kd k x
  obtain ⟨X2, S2, o2, p2, m2⟩ := open_kd k y
  have HP := hide (fun W => quo_any k (oN P Q x) (oN P Q y) p1 p2 W)
  unfold divB
  rw [m1, m2] at HP
  exact quoDiv_l W (hide (fun W => open_any x k.wd W x0 x1 o1)) (hide (fun W => open_any y k.wd W y0 y1 o2)) HP
theorem div_no {w e f P Q b x y : Int} (k : Wd w e f P Q b) (hf : f = 0) (W : World) (x0 : 0 ≤ x) (x1 : x < 18446744073709551616) (y0 : 0 ≤ y) (y1 : y < 18446744073709551616) :
    Calls Try.prog 7 #[.int .i64 w, .int .u64 x, .int .u64 y] W fun r W' => r = .returned (.int .u64 0) ∧ Below W.heap.size W W' := by
  have HN := fun W => nan_any k W
  rw [put_0 hf] at HN
  exact quoDiv_l W (hide (fun W => open_none k hf x W x0 x1)) (hide (fun W => open_none k hf y W y0 y1))
    (hide (fun W => nearestQ_nan W (hide (fun W => isNone_t (by omega) W)) (hide HN)))
theorem inv_any {w e f P Q b x : Int} (k : Kd w e f P Q b) (W : World) (x0 : 0 ≤ x) (x1 : x < 18446744073709551616) :
    Calls Try.prog 8 #[.int .i64 w, .int .u64 x] W fun r W' => r = .returned (.int .u64 (divB f P Q b (put f P Q false b 0) x)) ∧ Below W.heap.size W W' := by
  have hb : 1 ≤ b ∧ b < Q - 1 := by rcases k with ⟨-, -, -, -, rfl, rfl⟩ | ⟨-, -, -, -, rfl, rfl⟩ <;> omega
  obtain ⟨o0, o1, -⟩ := pow_any k hb.1 hb.2
  exact quoInv_l W (hide (fun W => whole_one k W)) (hide (fun W => div_any k W o0 o1 x0 x1))
theorem inv_no {w e f P Q b x : Int} (k : Wd w e f P Q b) (hf : f = 0) (W : World) (x0 : 0 ≤ x) (x1 : x < 18446744073709551616) :
    Calls Try.prog 8 #[.int .i64 w, .int .u64 x] W fun r W' => r = .returned (.int .u64 0) ∧ Below W.heap.size W W' :=
  quoInv_l W (hide (fun W => whole_none k hf W)) (hide (fun W => div_no k hf W (by omega) (by omega) x0 x1))

theorem refDivQ_any {w e f P Q b x y : Int} (k : Kd w e f P Q b) (W : World) (x0 : 0 ≤ x) (x1 : x < 18446744073709551616) (y0 : 0 ≤ y) (y1 : y < 18446744073709551616) :
    Calls Try.prog 10 #[.int .i64 w, .int .u64 x, .int .u64 y] W fun r W' => r = .returned (.int .u64 (divB f P Q b x y)) ∧ Below W.heap.size W W' := by
  obtain ⟨X1, S1, o1, p1, m1⟩ := open_kd k x
  obtain ⟨X2, S2, o2, p2, m2⟩ := open_kd k y
  have HO1 := hide (fun W => refOpen_any x k W x0 x1 o1)
  have HO2 := hide (fun W => refOpen_any y k W y0 y1 o2)
  have HN := hide (fun W => refNan_any k W)
  unfold divB
  rw [← m1, ← m2]
  generalize oN P Q x = n1 at *
  generalize oN P Q y = n2 at *
  generalize oK P Q x = K1 at *
  generalize oK P Q y = K2 at *
  obtain ⟨p1', p2', q1, q2⟩ := k.pos
  obtain ⟨u0, u1, s0, -, s1⟩ := p1.in k
  obtain ⟨v0, v1, t0, -, t1⟩ := p2.in k
  have HI := hide (fun W => refInf_any (n1 != n2) k W)
  have HZ := hide (fun W => make_any (n1 != n2) 0 0 k W (by omega) (by omega) (by omega) (by omega))
  have hK1 : K1 = 0 ∨ K1 = 1 ∨ K1 = 2 ∨ K1 = 3 := by unfold Prt at p1; omega
  have hK2 : K2 = 0 ∨ K2 = 1 ∨ K2 = 2 ∨ K2 = 3 := by unfold Prt at p2; omega
  by_cases a : K1 = 3 ∨ K2 = 3 ∨ (K1 = 2 ∧ K2 = 2) ∨ (K1 = 0 ∧ K2 = 0)
  · rw [show divP f P Q b n1 K1 (mag X1 S1) n2 K2 (mag X2 S2) = nanB f P Q by unfold divP; rw [if_pos a]]
    by_cases a3 : K1 = 3
    · exact refDivQ_n1 W HO1 HO2 (eq_t a3) HN
    by_cases b3 : K2 = 3
    · exact refDivQ_n2 W HO1 HO2 (eq_f a3) (eq_t b3) HN
    by_cases a2 : K1 = 2
    · exact refDivQ_n3 W HO1 HO2 (eq_f a3) (eq_f b3) (eq_t a2) (eq_t (by omega)) HN
    · exact refDivQ_n4 W HO1 HO2 (eq_f a3) (eq_f b3) (eq_f a2) (eq_t (by omega)) (eq_t (by omega)) HN
  have a3 : (K1 == 3) = false := eq_f (by omega)
  have b3 : (K2 == 3) = false := eq_f (by omega)
  by_cases c : K1 = 2 ∨ K2 = 0
  · rw [show divP f P Q b n1 K1 (mag X1 S1) n2 K2 (mag X2 S2) = put f P Q (n1 != n2) (Q - 1) 0 by unfold divP; rw [if_neg a, if_pos c]]
    by_cases a2 : K1 = 2
    · exact refDivQ_i1 W HO1 HO2 a3 b3 (eq_t a2) (eq_f (by omega)) (eq_f (by omega)) HI
    · exact refDivQ_i2 W HO1 HO2 a3 b3 (eq_f a2) (eq_f (by omega)) (eq_t (by omega)) HI
  · by_cases d : K1 = 0 ∨ K2 = 2
    · rw [show divP f P Q b n1 K1 (mag X1 S1) n2 K2 (mag X2 S2) = put f P Q (n1 != n2) 0 0 by unfold divP; rw [if_neg a, if_neg c, if_pos d]]
      by_cases a0 : K1 = 0
      · exact refDivQ_z1 W HO1 HO2 a3 b3 (eq_f (by omega)) (eq_t a0) (eq_f (by omega)) HZ
      · exact refDivQ_z2 W HO1 HO2 a3 b3 (eq_f (by omega)) (eq_f a0) (eq_f (by omega)) (eq_t (by omega)) HZ
    · rw [show divP f P Q b n1 K1 (mag X1 S1) n2 K2 (mag X2 S2) = rdQ f P Q b (n1 != n2) (mag X1 S1 * 2 ^ Z5) (mag X2 S2) by unfold divP; rw [if_neg a, if_neg c, if_neg d], mag_div f P Q b _ u0 v0 v1]
      have hS1 : 0 < S1 := by unfold Prt at p1; omega
      have hS2 : 0 < S2 := by unfold Prt at p2; omega
      exact refDivQ_fin W HO1 HO2 a3 b3 (eq_f (by omega)) (eq_f (by omega)) (eq_f (by omega)) (eq_f (by omega)) (hide ⟨s0, by omega, t0, by omega⟩) (i64_id (by omega) (by omega))
        (hide (fun a m c a' m' c' W hx hy => near_gen k a a' m c m' c' S1.toNat S2.toNat W hx hy (by omega) (by omega) (by omega) (by omega) (by omega) (by omega)))

/-- A float times a power of two. -/
theorem scale_pow {w e f P Q b x : Int} (k : Kd w e f P Q b) (N : Int) (x0 : 0 ≤ x) (x1 : x < 18446744073709551616) (h0 : -1100 ≤ N) (h1 : N ≤ 1100) (W : World) :
    Calls Try.prog 19 #[.int .i64 w, .int .u64 x, .int .i64 N] W fun r W' => r = .returned (.int .u64 (if oK P Q x = 3 then nanB f P Q else if oK P Q x = 2 then put f P Q (oN P Q x) (Q - 1) 0 else rd f P Q b (oN P Q x) (oM f P Q b x * 2 ^ Z5 / 2 ^ (5000 - N).toNat))) ∧ Below W.heap.size W W' := by
  obtain ⟨X, S, o1, p1, m1⟩ := open_kd k x
  have HO := hide (fun W => open_any x k.wd W x0 x1 o1)
  rw [← m1]
  generalize oN P Q x = n at *
  obtain ⟨u0, u1, s0, -, s1⟩ := p1.in k
  rw [(mag_shift (X := X) (S := S) (N := N) u0 h0 h1).1]
  by_cases hK : oK P Q x = 1
  · rw [hK] at HO p1
    rw [if_neg (by omega), if_neg (by omega)]
    have HC := hide (fun W => narrow_any k n 1 (X + N) S s0 (by omega) W)
    have e1 := scale_num k n N p1
    rw [clamp_id (by omega) (by omega), clamp_id (by omega) (by omega), exact_wide k n _ (by omega) (by omega)] at e1
    rw [e1] at HC
    exact scale_mid W (by omega) (by omega) (i64_id (by omega) (by omega)) HO HC
  · have hK' : oK P Q x = 0 ∨ oK P Q x = 2 ∨ oK P Q x = 3 := by unfold Prt at p1; omega
    have hS : S = 0 := by unfold Prt at p1; omega
    have HC := fun W => narrow_any k n (oK P Q x) X S s0 (by omega) W
    rw [show narrowN f P Q b n (oK P Q x) X S = if oK P Q x = 3 then nanB f P Q else if oK P Q x = 2 then put f P Q n (Q - 1) 0 else rd f P Q b n (S.toNat * 2 ^ (X + N + 5000).toNat) by
      unfold narrowN nanB
      rcases hK' with h | h | h
      · rw [if_pos h, if_neg (by omega), if_neg (by omega), hS, show (0 : Int).toNat = 0 from rfl, Nat.zero_mul, rd_zero k]
      · rw [if_neg (by omega), if_neg (by omega), if_pos h, if_neg (by omega), if_pos h]
      · rw [if_neg (by omega), if_neg (by omega), if_neg (by omega), if_pos h, if_pos h]] at HC
    exact scale_oth W (eq_f hK) HO (hide HC)

end Go.Proofs.Ytcgnlpamfhdiiaa
