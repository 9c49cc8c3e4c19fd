/- ProdR, ProdC, ProdD, Scales. -/
import Derived.Test.YtlkmongiknpejaaG21
import Derived.Test.YtlkmongiknpejaaG23
import Derived.Test.YtlkmongiknpejaaG36
import Derived.LoopTactic
namespace Go.Proofs.Ytlkmongiknpejaa
open Go.RowKit
open Go.Proofs.Ytlkmongiknpejaa.W

set_option maxRecDepth 100000 in
set_option maxHeartbeats 2000000 in
theorem refMul_n1 {w x y K1 X1 S1 K2 X2 S2 V : Int} {n1 n2 : Bool} (W : World) (HO1 : Hid (∀ W, Calls Try.prog 24 #[.int .i64 w, .int .u64 x] W fun r W' => r = .returned (.agg #[.bool n1, .int .i64 K1, .int .i64 X1, .int .u64 S1]) ∧ Below W.heap.size W W')) (HO2 : Hid (∀ W, Calls Try.prog 24 #[.int .i64 w, .int .u64 y] W fun r W' => r = .returned (.agg #[.bool n2, .int .i64 K2, .int .i64 X2, .int .u64 S2]) ∧ Below W.heap.size W W')) (a3 : (K1 == 3) = true)  (HC : Hid (∀ W, Calls Try.prog 25 #[.int .i64 w] W fun r W' => r = .returned (.int .u64 V) ∧ Below W.heap.size W W')) :
    Calls Try.prog 10 #[.int .i64 w, .int .u64 x, .int .u64 y] W fun r W' => r = .returned (.int .u64 V) ∧ Below W.heap.size W W' := by
  go_enter Try.func10, Try.ntmps10
  go_wp2_with fail
  refine (unhide HO1 _).mono ?_
  rintro _ w1 ⟨rfl, hb⟩
  have HB := hide (balloc hb (.cells #[.bool n1, .int .i64 K1, .int .i64 X1, .int .u64 S1] 41))
  have HA := hide (at4_new w1 (.bool n1) (.int .i64 K1) (.int .i64 X1) (.int .u64 S1) 41)
  clear hb
  go_wp2_with fail
  refine (unhide HO2 _).mono ?_
  rintro _ w2 ⟨rfl, hb⟩
  have HB := hide (balloc (bthen (unhide HB) hb) (.cells #[.bool n2, .int .i64 K2, .int .i64 X2, .int .u64 S2] 41))
  have HA := hide (((unhide HA).below hb).below (below1 _ (.cells #[.bool n2, .int .i64 K2, .int .i64 X2, .int .u64 S2] 41)))
  have HA2 := hide (at4_new w2 (.bool n2) (.int .i64 K2) (.int .i64 X2) (.int .u64 S2) 41)
  clear hb
  obtain ⟨c0, c1, -, -⟩ := unhide HA
  obtain ⟨d0, d1, -, -⟩ := unhide HA2
  go_wp2_with fail
  refine (unhide HC _).mono ?_
  rintro _ w3 ⟨rfl, hb⟩
  have HB := hide (bthen (unhide HB) hb)
  clear hb
  go_wp2_with fail
  go_ret
  exact ⟨rfl, unhide HB⟩
set_option maxRecDepth 100000 in
set_option maxHeartbeats 2000000 in
theorem refMul_n2 {w x y K1 X1 S1 K2 X2 S2 V : Int} {n1 n2 : Bool} (W : World) (HO1 : Hid (∀ W, Calls Try.prog 24 #[.int .i64 w, .int .u64 x] W fun r W' => r = .returned (.agg #[.bool n1, .int .i64 K1, .int .i64 X1, .int .u64 S1]) ∧ Below W.heap.size W W')) (HO2 : Hid (∀ W, Calls Try.prog 24 #[.int .i64 w, .int .u64 y] W fun r W' => r = .returned (.agg #[.bool n2, .int .i64 K2, .int .i64 X2, .int .u64 S2]) ∧ Below W.heap.size W W')) (a3 : (K1 == 3) = false) (b3 : (K2 == 3) = true)  (HC : Hid (∀ W, Calls Try.prog 25 #[.int .i64 w] W fun r W' => r = .returned (.int .u64 V) ∧ Below W.heap.size W W')) :
    Calls Try.prog 10 #[.int .i64 w, .int .u64 x, .int .u64 y] W fun r W' => r = .returned (.int .u64 V) ∧ Below W.heap.size W W' := by
  go_enter Try.func10, Try.ntmps10
  go_wp2_with fail
  refine (unhide HO1 _).mono ?_
  rintro _ w1 ⟨rfl, hb⟩
  have HB := hide (balloc hb (.cells #[.bool n1, .int .i64 K1, .int .i64 X1, .int .u64 S1] 41))
  have HA := hide (at4_new w1 (.bool n1) (.int .i64 K1) (.int .i64 X1) (.int .u64 S1) 41)
  clear hb
  go_wp2_with fail
  refine (unhide HO2 _).mono ?_
  rintro _ w2 ⟨rfl, hb⟩
  have HB := hide (balloc (bthen (unhide HB) hb) (.cells #[.bool n2, .int .i64 K2, .int .i64 X2, .int .u64 S2] 41))
  have HA := hide (((unhide HA).below hb).below (below1 _ (.cells #[.bool n2, .int .i64 K2, .int .i64 X2, .int .u64 S2] 41)))
  have HA2 := hide (at4_new w2 (.bool n2) (.int .i64 K2) (.int .i64 X2) (.int .u64 S2) 41)
  clear hb
  obtain ⟨c0, c1, -, -⟩ := unhide HA
  obtain ⟨d0, d1, -, -⟩ := unhide HA2
  go_wp2_with fail
  refine (unhide HC _).mono ?_
  rintro _ w3 ⟨rfl, hb⟩
  have HB := hide (bthen (unhide HB) hb)
  clear hb
  go_wp2_with fail
  go_ret
  exact ⟨rfl, unhide HB⟩
set_option maxRecDepth 100000 in
set_option maxHeartbeats 2000000 in
theorem refMul_n3 {w x y K1 X1 S1 K2 X2 S2 V : Int} {n1 n2 : Bool} (W : World) (HO1 : Hid (∀ W, Calls Try.prog 24 #[.int .i64 w, .int .u64 x] W fun r W' => r = .returned (.agg #[.bool n1, .int .i64 K1, .int .i64 X1, .int .u64 S1]) ∧ Below W.heap.size W W')) (HO2 : Hid (∀ W, Calls Try.prog 24 #[.int .i64 w, .int .u64 y] W fun r W' => r = .returned (.agg #[.bool n2, .int .i64 K2, .int .i64 X2, .int .u64 S2]) ∧ Below W.heap.size W W')) (a3 : (K1 == 3) = false) (b3 : (K2 == 3) = false) (a2 : (K1 == 2) = true) (b0 : (K2 == 0) = true)  (HC : Hid (∀ W, Calls Try.prog 25 #[.int .i64 w] W fun r W' => r = .returned (.int .u64 V) ∧ Below W.heap.size W W')) :
    Calls Try.prog 10 #[.int .i64 w, .int .u64 x, .int .u64 y] W fun r W' => r = .returned (.int .u64 V) ∧ Below W.heap.size W W' := by
  go_enter Try.func10, Try.ntmps10
  go_wp2_with fail
  refine (unhide HO1 _).mono ?_
  rintro _ w1 ⟨rfl, hb⟩
  have HB := hide (balloc hb (.cells #[.bool n1, .int .i64 K1, .int .i64 X1, .int .u64 S1] 41))
  have HA := hide (at4_new w1 (.bool n1) (.int .i64 K1) (.int .i64 X1) (.int .u64 S1) 41)
  clear hb
  go_wp2_with fail
  refine (unhide HO2 _).mono ?_
  rintro _ w2 ⟨rfl, hb⟩
  have HB := hide (balloc (bthen (unhide HB) hb) (.cells #[.bool n2, .int .i64 K2, .int .i64 X2, .int .u64 S2] 41))
  have HA := hide (((unhide HA).below hb).below (below1 _ (.cells #[.bool n2, .int .i64 K2, .int .i64 X2, .int .u64 S2] 41)))
  have HA2 := hide (at4_new w2 (.bool n2) (.int .i64 K2) (.int .i64 X2) (.int .u64 S2) 41)
  clear hb
  obtain ⟨c0, c1, -, -⟩ := unhide HA
  obtain ⟨d0, d1, -, -⟩ := unhide HA2
  go_wp2_with fail
  refine (unhide HC _).mono ?_
  rintro _ w3 ⟨rfl, hb⟩
  have HB := hide (bthen (unhide HB) hb)
  clear hb
  go_wp2_with fail
  go_ret
  exact ⟨rfl, unhide HB⟩
set_option maxRecDepth 100000 in
set_option maxHeartbeats 2000000 in
theorem refMul_n4 {w x y K1 X1 S1 K2 X2 S2 V : Int} {n1 n2 : Bool} (W : World) (HO1 : Hid (∀ W, Calls Try.prog 24 #[.int .i64 w, .int .u64 x] W fun r W' => r = .returned (.agg #[.bool n1, .int .i64 K1, .int .i64 X1, .int .u64 S1]) ∧ Below W.heap.size W W')) (HO2 : Hid (∀ W, Calls Try.prog 24 #[.int .i64 w, .int .u64 y] W fun r W' => r = .returned (.agg #[.bool n2, .int .i64 K2, .int .i64 X2, .int .u64 S2]) ∧ Below W.heap.size W W')) (a3 : (K1 == 3) = false) (b3 : (K2 == 3) = false) (a2 : (K1 == 2) = false) (a0 : (K1 == 0) = true) (b2 : (K2 == 2) = true)  (HC : Hid (∀ W, Calls Try.prog 25 #[.int .i64 w] W fun r W' => r = .returned (.int .u64 V) ∧ Below W.heap.size W W')) :
    Calls Try.prog 10 #[.int .i64 w, .int .u64 x, .int .u64 y] W fun r W' => r = .returned (.int .u64 V) ∧ Below W.heap.size W W' := by
  go_enter Try.func10, Try.ntmps10
  go_wp2_with fail
  refine (unhide HO1 _).mono ?_
  rintro _ w1 ⟨rfl, hb⟩
  have HB := hide (balloc hb (.cells #[.bool n1, .int .i64 K1, .int .i64 X1, .int .u64 S1] 41))
  have HA := hide (at4_new w1 (.bool n1) (.int .i64 K1) (.int .i64 X1) (.int .u64 S1) 41)
  clear hb
  go_wp2_with fail
  refine (unhide HO2 _).mono ?_
  rintro _ w2 ⟨rfl, hb⟩
  have HB := hide (balloc (bthen (unhide HB) hb) (.cells #[.bool n2, .int .i64 K2, .int .i64 X2, .int .u64 S2] 41))
  have HA := hide (((unhide HA).below hb).below (below1 _ (.cells #[.bool n2, .int .i64 K2, .int .i64 X2, .int .u64 S2] 41)))
  have HA2 := hide (at4_new w2 (.bool n2) (.int .i64 K2) (.int .i64 X2) (.int .u64 S2) 41)
  clear hb
  obtain ⟨c0, c1, -, -⟩ := unhide HA
  obtain ⟨d0, d1, -, -⟩ := unhide HA2
  go_wp2_with fail
  refine (unhide HC _).mono ?_
  rintro _ w3 ⟨rfl, hb⟩
  have HB := hide (bthen (unhide HB) hb)
  clear hb
  go_wp2_with fail
  go_ret
  exact ⟨rfl, unhide HB⟩
set_option maxRecDepth 100000 in
set_option maxHeartbeats 2000000 in
theorem refMul_i1 {w x y K1 X1 S1 K2 X2 S2 V : Int} {n1 n2 : Bool} (W : World) (HO1 : Hid (∀ W, Calls Try.prog 24 #[.int .i64 w, .int .u64 x] W fun r W' => r = .returned (.agg #[.bool n1, .int .i64 K1, .int .i64 X1, .int .u64 S1]) ∧ Below W.heap.size W W')) (HO2 : Hid (∀ W, Calls Try.prog 24 #[.int .i64 w, .int .u64 y] W fun r W' => r = .returned (.agg #[.bool n2, .int .i64 K2, .int .i64 X2, .int .u64 S2]) ∧ Below W.heap.size W W')) (a3 : (K1 == 3) = false) (b3 : (K2 == 3) = false) (a2 : (K1 == 2) = true) (b0 : (K2 == 0) = false) (a0 : (K1 == 0) = false)  (HC : Hid (∀ W, Calls Try.prog 26 #[.int .i64 w, .bool (n1 != n2)] W fun r W' => r = .returned (.int .u64 V) ∧ Below W.heap.size W W')) :
    Calls Try.prog 10 #[.int .i64 w, .int .u64 x, .int .u64 y] W fun r W' => r = .returned (.int .u64 V) ∧ Below W.heap.size W W' := by
  go_enter Try.func10, Try.ntmps10
  go_wp2_with fail
  refine (unhide HO1 _).mono ?_
  rintro _ w1 ⟨rfl, hb⟩
  have HB := hide (balloc hb (.cells #[.bool n1, .int .i64 K1, .int .i64 X1, .int .u64 S1] 41))
  have HA := hide (at4_new w1 (.bool n1) (.int .i64 K1) (.int .i64 X1) (.int .u64 S1) 41)
  clear hb
  go_wp2_with fail
  refine (unhide HO2 _).mono ?_
  rintro _ w2 ⟨rfl, hb⟩
  have HB := hide (balloc (bthen (unhide HB) hb) (.cells #[.bool n2, .int .i64 K2, .int .i64 X2, .int .u64 S2] 41))
  have HA := hide (((unhide HA).below hb).below (below1 _ (.cells #[.bool n2, .int .i64 K2, .int .i64 X2, .int .u64 S2] 41)))
  have HA2 := hide (at4_new w2 (.bool n2) (.int .i64 K2) (.int .i64 X2) (.int .u64 S2) 41)
  clear hb
  obtain ⟨c0, c1, -, -⟩ := unhide HA
  obtain ⟨d0, d1, -, -⟩ := unhide HA2
  go_wp2_with fail
  refine (unhide HC _).mono ?_
  rintro _ w3 ⟨rfl, hb⟩
  have HB := hide (bthen (unhide HB) hb)
  clear hb
  go_wp2_with fail
  go_ret
  exact ⟨rfl, unhide HB⟩
set_option maxRecDepth 100000 in
set_option maxHeartbeats 2000000 in
theorem refMul_i2 {w x y K1 X1 S1 K2 X2 S2 V : Int} {n1 n2 : Bool} (W : World) (HO1 : Hid (∀ W, Calls Try.prog 24 #[.int .i64 w, .int .u64 x] W fun r W' => r = .returned (.agg #[.bool n1, .int .i64 K1, .int .i64 X1, .int .u64 S1]) ∧ Below W.heap.size W W')) (HO2 : Hid (∀ W, Calls Try.prog 24 #[.int .i64 w, .int .u64 y] W fun r W' => r = .returned (.agg #[.bool n2, .int .i64 K2, .int .i64 X2, .int .u64 S2]) ∧ Below W.heap.size W W')) (a3 : (K1 == 3) = false) (b3 : (K2 == 3) = false) (a2 : (K1 == 2) = false) (a0 : (K1 == 0) = false) (b2 : (K2 == 2) = true)  (HC : Hid (∀ W, Calls Try.prog 26 #[.int .i64 w, .bool (n1 != n2)] W fun r W' => r = .returned (.int .u64 V) ∧ Below W.heap.size W W')) :
    Calls Try.prog 10 #[.int .i64 w, .int .u64 x, .int .u64 y] W fun r W' => r = .returned (.int .u64 V) ∧ Below W.heap.size W W' := by
  go_enter Try.func10, Try.ntmps10
  go_wp2_with fail
  refine (unhide HO1 _).mono ?_
  rintro _ w1 ⟨rfl, hb⟩
  have HB := hide (balloc hb (.cells #[.bool n1, .int .i64 K1, .int .i64 X1, .int .u64 S1] 41))
  have HA := hide (at4_new w1 (.bool n1) (.int .i64 K1) (.int .i64 X1) (.int .u64 S1) 41)
  clear hb
  go_wp2_with fail
  refine (unhide HO2 _).mono ?_
  rintro _ w2 ⟨rfl, hb⟩
  have HB := hide (balloc (bthen (unhide HB) hb) (.cells #[.bool n2, .int .i64 K2, .int .i64 X2, .int .u64 S2] 41))
  have HA := hide (((unhide HA).below hb).below (below1 _ (.cells #[.bool n2, .int .i64 K2, .int .i64 X2, .int .u64 S2] 41)))
  have HA2 := hide (at4_new w2 (.bool n2) (.int .i64 K2) (.int .i64 X2) (.int .u64 S2) 41)
  clear hb
  obtain ⟨c0, c1, -, -⟩ := unhide HA
  obtain ⟨d0, d1, -, -⟩ := unhide HA2
  go_wp2_with fail
  refine (unhide HC _).mono ?_
  rintro _ w3 ⟨rfl, hb⟩
  have HB := hide (bthen (unhide HB) hb)
  clear hb
  go_wp2_with fail
  go_ret
  exact ⟨rfl, unhide HB⟩
set_option maxRecDepth 100000 in
set_option maxHeartbeats 2000000 in
theorem refMul_e0 {w x y K1 X1 S1 K2 X2 S2 E V : Int} {n1 n2 : Bool} (W : World) (HO1 : Hid (∀ W, Calls Try.prog 24 #[.int .i64 w, .int .u64 x] W fun r W' => r = .returned (.agg #[.bool n1, .int .i64 K1, .int .i64 X1, .int .u64 S1]) ∧ Below W.heap.size W W')) (HO2 : Hid (∀ W, Calls Try.prog 24 #[.int .i64 w, .int .u64 y] W fun r W' => r = .returned (.agg #[.bool n2, .int .i64 K2, .int .i64 X2, .int .u64 S2]) ∧ Below W.heap.size W W')) (a3 : (K1 == 3) = false) (b3 : (K2 == 3) = false) (a2 : (K1 == 2) = false) (a0 : (K1 == 0) = true) (b2 : (K2 == 2) = false) (HS : Hid (0 ≤ S1 ∧ S1 < 18446744073709551616 ∧ S1.toNat < pw 2 ∧ 0 ≤ S2 ∧ S2 < 18446744073709551616 ∧ S2.toNat < pw 2)) (kx : IntKind.i64.wrap (X1 + X2) = E) (HE : Hid (∀ (a : Option Addr) (m c : Nat) (W : World), IsNat W (.slice a m c) (S1.toNat * S2.toNat) → Calls Try.prog 27 #[.int .i64 w, .bool (n1 != n2), .agg #[.slice a m c], .int .i64 E] W fun r W' => r = .returned (.int .u64 V) ∧ Below W.heap.size W W')) :
    Calls Try.prog 10 #[.int .i64 w, .int .u64 x, .int .u64 y] W fun r W' => r = .returned (.int .u64 V) ∧ Below W.heap.size W W' := by
  go_enter Try.func10, Try.ntmps10
  go_wp2_with fail
  refine (unhide HO1 _).mono ?_
  rintro _ w1 ⟨rfl, hb⟩
  have HB := hide (balloc hb (.cells #[.bool n1, .int .i64 K1, .int .i64 X1, .int .u64 S1] 41))
  have HA := hide (at4_new w1 (.bool n1) (.int .i64 K1) (.int .i64 X1) (.int .u64 S1) 41)
  clear hb
  go_wp2_with fail
  refine (unhide HO2 _).mono ?_
  rintro _ w2 ⟨rfl, hb⟩
  have HB := hide (balloc (bthen (unhide HB) hb) (.cells #[.bool n2, .int .i64 K2, .int .i64 X2, .int .u64 S2] 41))
  have HA := hide (((unhide HA).below hb).below (below1 _ (.cells #[.bool n2, .int .i64 K2, .int .i64 X2, .int .u64 S2] 41)))
  have HA2 := hide (at4_new w2 (.bool n2) (.int .i64 K2) (.int .i64 X2) (.int .u64 S2) 41)
  clear hb
  obtain ⟨c0, c1, -, -⟩ := unhide HA
  obtain ⟨d0, d1, -, -⟩ := unhide HA2
  go_wp2_with fail
  clear c0 c1 d0 d1
  have HB := hide ((unhide HB).drew)
  have HA := hide ((unhide HA).below ((Below.refl _ _).drew))
  have HA2 := hide ((unhide HA2).below ((Below.refl _ _).drew))
  refine wp_region_held_drew (S := fun w' => (w'.cell? ⟨w1.heap.size, 0, none⟩ = some (.bool n1) ∧ w'.cell? ⟨w1.heap.size, 1, none⟩ = some (.int .i64 K1) ∧ w'.cell? ⟨w1.heap.size, 2, none⟩ = some (.int .i64 X1) ∧ w'.cell? ⟨w1.heap.size, 3, none⟩ = some (.int .u64 S1)) ∧ (w'.cell? ⟨w2.heap.size, 0, none⟩ = some (.bool n2) ∧ w'.cell? ⟨w2.heap.size, 1, none⟩ = some (.int .i64 K2) ∧ w'.cell? ⟨w2.heap.size, 2, none⟩ = some (.int .i64 X2) ∧ w'.cell? ⟨w2.heap.size, 3, none⟩ = some (.int .u64 S2))) (by kernel_rfl) ?_ (fun hHeld => ?_)
  · (try dsimp only)
    exact ⟨unhide HA, unhide HA2⟩
  refine anyH_at #[false, false, false, false, false, false, false, false, false, false, false, false, false, false, false, false] (by kernel_rfl) ?_
  refine wpAnyH_take (i := 0) (oi := { dst := some 62, op := _, type := _, pos := _, after := _, guard := _ }) (v := ?vv0) rfl (by kernel_rfl) (by kernel_rfl) (by kernel_rfl) (fun _ _ _ h => h) (Or.inl ⟨by rfl, ?hy0⟩) (by assumption) ?rest0
  case hy0 => ((intro w hSw; (try dsimp only at hSw); go_simp) <;> with_reducible rfl)
  case rest0 =>
    (try simp only [Act.put, List.setIfInBounds_toArray, List.set_cons_zero, List.set_cons_succ])
    refine anyH_at #[true, false, false, false, false, false, false, false, false, false, false, false, false, false, false, false] (by kernel_rfl) ?_
    refine wpAnyH_take (i := 1) (oi := { dst := some 63, op := _, type := _, pos := _, after := _, guard := _ }) (v := ?vv1) rfl (by kernel_rfl) (by kernel_rfl) (by kernel_rfl) (fun _ _ _ h => h) (Or.inl ⟨by rfl, ?hy1⟩) (by assumption) ?rest1
    case hy1 => ((intro w hSw; (try dsimp only at hSw); go_simp) <;> with_reducible rfl)
    case rest1 =>
      (try simp only [Act.put, List.setIfInBounds_toArray, List.set_cons_zero, List.set_cons_succ])
      refine anyH_at #[true, true, false, false, false, false, false, false, false, false, false, false, false, false, false, false] (by kernel_rfl) ?_
      refine wpAnyH_take (i := 2) (oi := { dst := some 64, op := _, type := _, pos := _, after := _, guard := _ }) (v := ?vv2) rfl (by kernel_rfl) (by kernel_rfl) (by kernel_rfl) (fun _ _ _ h => h) (Or.inl ⟨by rfl, ?hy2⟩) (by assumption) ?rest2
      case hy2 => ((intro w hSw; (try dsimp only at hSw); go_simp) <;> with_reducible rfl)
      case rest2 =>
        (try simp only [Act.put, List.setIfInBounds_toArray, List.set_cons_zero, List.set_cons_succ])
        refine anyH_at #[true, true, true, false, false, false, false, false, false, false, false, false, false, false, false, false] (by kernel_rfl) ?_
        refine wpAnyH_take (i := 3) (oi := { dst := some 65, op := _, type := _, pos := _, after := _, guard := _ }) (v := ?vv3) rfl (by kernel_rfl) (by kernel_rfl) (by kernel_rfl) (fun _ _ _ h => h) (Or.inl ⟨by rfl, ?hy3⟩) (by assumption) ?rest3
        case hy3 => ((intro w hSw; (try dsimp only at hSw); go_simp) <;> with_reducible rfl)
        case rest3 =>
          (try simp only [Act.put, List.setIfInBounds_toArray, List.set_cons_zero, List.set_cons_succ])
          refine anyH_at #[true, true, true, true, false, false, false, false, false, false, false, false, false, false, false, false] (by kernel_rfl) ?_
          refine wpAnyH_take (i := 5) (oi := { dst := some 67, op := _, type := _, pos := _, after := _, guard := _ }) (v := ?vv5) rfl (by kernel_rfl) (by kernel_rfl) (by kernel_rfl) (fun _ _ _ h => h) (Or.inl ⟨by rfl, ?hy5⟩) (by assumption) ?rest5
          case hy5 => ((intro w hSw; (try dsimp only at hSw); go_simp) <;> with_reducible rfl)
          case rest5 =>
            (try simp only [Act.put, List.setIfInBounds_toArray, List.set_cons_zero, List.set_cons_succ])
            refine anyH_at #[true, true, true, true, false, true, false, false, false, false, false, false, false, false, false, false] (by kernel_rfl) ?_
            refine wpAnyH_take (i := 6) (oi := { dst := some 68, op := _, type := _, pos := _, after := _, guard := _ }) (v := ?vv6) rfl (by kernel_rfl) (by kernel_rfl) (by kernel_rfl) (fun _ _ _ h => h) (Or.inl ⟨by rfl, ?hy6⟩) (by assumption) ?rest6
            case hy6 => ((intro w hSw; (try dsimp only at hSw); go_simp) <;> with_reducible rfl)
            case rest6 =>
              (try simp only [Act.put, List.setIfInBounds_toArray, List.set_cons_zero, List.set_cons_succ])
              refine anyH_at #[true, true, true, true, false, true, true, false, false, false, false, false, false, false, false, false] (by kernel_rfl) ?_
              refine wpAnyH_take (i := 9) (oi := { dst := some 71, op := _, type := _, pos := _, after := _, guard := _ }) (v := ?vv9) rfl (by kernel_rfl) (by kernel_rfl) (by kernel_rfl) (fun _ _ _ h => h) (Or.inl ⟨by rfl, ?hy9⟩) (by assumption) ?rest9
              case hy9 => ((intro w hSw; (try dsimp only at hSw); go_simp) <;> with_reducible rfl)
              case rest9 =>
                (try simp only [Act.put, List.setIfInBounds_toArray, List.set_cons_zero, List.set_cons_succ])
                refine anyH_at #[true, true, true, true, false, true, true, false, false, true, false, false, false, false, false, false] (by kernel_rfl) ?_
                refine wpAnyH_take (i := 10) (oi := { dst := some 72, op := _, type := _, pos := _, after := _, guard := _ }) (v := ?vv10) rfl (by kernel_rfl) (by kernel_rfl) (by kernel_rfl) (fun _ _ _ h => h) (Or.inl ⟨by rfl, ?hy10⟩) (by assumption) ?rest10
                case hy10 => ((intro w hSw; (try dsimp only at hSw); go_simp) <;> with_reducible rfl)
                case rest10 =>
                  (try simp only [Act.put, List.setIfInBounds_toArray, List.set_cons_zero, List.set_cons_succ])
                  refine anyH_at #[true, true, true, true, false, true, true, false, false, true, true, false, false, false, false, false] (by kernel_rfl) ?_
                  refine wpAnyH_take (i := 11) (oi := { dst := some 73, op := _, type := _, pos := _, after := _, guard := _ }) (v := ?vv11) rfl (by kernel_rfl) (by kernel_rfl) (by kernel_rfl) (fun _ _ _ h => h) (Or.inl ⟨by rfl, ?hy11⟩) (by assumption) ?rest11
                  case hy11 => ((intro w hSw; (try dsimp only at hSw); go_simp) <;> with_reducible rfl)
                  case rest11 =>
                    (try simp only [Act.put, List.setIfInBounds_toArray, List.set_cons_zero, List.set_cons_succ])
                    refine anyH_at #[true, true, true, true, false, true, true, false, false, true, true, true, false, false, false, false] (by kernel_rfl) ?_
                    refine wpAnyH_take (i := 12) (oi := { dst := some 74, op := _, type := _, pos := _, after := _, guard := _ }) (v := ?vv12) rfl (by kernel_rfl) (by kernel_rfl) (by kernel_rfl) (fun _ _ _ h => h) (Or.inl ⟨by rfl, ?hy12⟩) (by assumption) ?rest12
                    case hy12 => ((intro w hSw; (try dsimp only at hSw); go_simp) <;> with_reducible rfl)
                    case rest12 =>
                      (try simp only [Act.put, List.setIfInBounds_toArray, List.set_cons_zero, List.set_cons_succ])
                      refine anyH_at #[true, true, true, true, false, true, true, false, false, true, true, true, true, false, false, false] (by kernel_rfl) ?_
                      refine wpAnyH_take (i := 13) (oi := { dst := some 75, op := _, type := _, pos := _, after := _, guard := _ }) (v := ?vv13) rfl (by kernel_rfl) (by kernel_rfl) (by kernel_rfl) (fun _ _ _ h => h) (Or.inl ⟨by rfl, ?hy13⟩) (by assumption) ?rest13
                      case hy13 => ((intro w hSw; (try dsimp only at hSw); go_simp) <;> with_reducible rfl)
                      case rest13 =>
                        (try simp only [Act.put, List.setIfInBounds_toArray, List.set_cons_zero, List.set_cons_succ])
                        refine anyH_at #[true, true, true, true, false, true, true, false, false, true, true, true, true, true, false, false] (by kernel_rfl) ?_
                        refine wpAnyH_ready (rs := [4]) (by kernel_rfl) (by simp) ?_
                        refine AllReadyH.cons (o := { dst := some 66, op := _, type := _, pos := _, after := _, guard := _ }) rfl (fun Kk hKk => ?_) AllReadyH.nil
                        go_simp
                        refine (refOf_any S1 _ (unhide HS).1 (unhide HS).2.1).mono ?_
                        rintro _ w3 ⟨s3, rfl, hN, hbl⟩
                        obtain ⟨a3, m3, c3, rfl⟩ := hN.slice
                        have HB := hide (bthen (unhide HB) hbl)
                        have HA := hide ((unhide HA).below hbl)
                        have HA2 := hide ((unhide HA2).below hbl)
                        have H3 := hide hN
                        clear hbl hN
                        (try go_wp2_with fail)
                        refine hKk.out _ _ ?_ (fun hHeld => ?_)
                        · (try dsimp only)
                          exact ⟨unhide HA, unhide HA2⟩
                        clear hKk Kk
                        (try simp only [List.setIfInBounds_toArray, List.set_cons_zero, List.set_cons_succ])
                        refine anyH_at #[true, true, true, true, true, true, true, false, false, true, true, true, true, true, false, false] (by kernel_rfl) ?_
                        refine wpAnyH_ready (rs := [7]) (by kernel_rfl) (by simp) ?_
                        refine AllReadyH.cons (o := { dst := some 69, op := _, type := _, pos := _, after := _, guard := _ }) rfl (fun Kk hKk => ?_) AllReadyH.nil
                        go_simp
                        refine (refOf_any S2 _ (unhide HS).2.2.2.1 (unhide HS).2.2.2.2.1).mono ?_
                        rintro _ w4 ⟨s4, rfl, hN, hbl⟩
                        obtain ⟨a4, m4, c4, rfl⟩ := hN.slice
                        have HB := hide (bthen (unhide HB) hbl)
                        have HA := hide ((unhide HA).below hbl)
                        have HA2 := hide ((unhide HA2).below hbl)
                        have H3 := hide ((unhide H3).below hbl)
                        have H4 := hide hN
                        clear hbl hN
                        (try go_wp2_with fail)
                        refine hKk.out _ _ ?_ (fun hHeld => ?_)
                        · (try dsimp only)
                          exact ⟨unhide HA, unhide HA2⟩
                        clear hKk Kk
                        (try simp only [List.setIfInBounds_toArray, List.set_cons_zero, List.set_cons_succ])
                        refine anyH_at #[true, true, true, true, true, true, true, true, false, true, true, true, true, true, false, false] (by kernel_rfl) ?_
                        refine wpAnyH_ready (rs := [8]) (by kernel_rfl) (by simp) ?_
                        refine AllReadyH.cons (o := { dst := some 70, op := _, type := _, pos := _, after := _, guard := _ }) rfl (fun Kk hKk => ?_) AllReadyH.nil
                        go_simp
                        refine (refMul_any _ _ _ _ _ _ _ _ _ (unhide H3) (unhide H4) (Nat.le_trans ((unhide H3).short (unhide HS).2.2.1) (by omega)) (Nat.le_trans ((unhide H4).short (unhide HS).2.2.2.2.2) (by omega))).mono ?_
                        rintro _ w5 ⟨s5, rfl, hN, hbl⟩
                        obtain ⟨a5, m5, c5, rfl⟩ := hN.slice
                        have HB := hide (bthen (unhide HB) hbl)
                        have HA := hide ((unhide HA).below hbl)
                        have HA2 := hide ((unhide HA2).below hbl)
                        have H5 := hide hN
                        clear hbl hN
                        (try go_wp2_with fail)
                        refine hKk.out _ _ ?_ (fun hHeld => ?_)
                        · (try dsimp only)
                          exact ⟨unhide HA, unhide HA2⟩
                        clear hKk Kk
                        (try simp only [List.setIfInBounds_toArray, List.set_cons_zero, List.set_cons_succ])
                        refine anyH_at #[true, true, true, true, true, true, true, true, true, true, true, true, true, true, false, false] (by kernel_rfl) ?_
                        refine wpAnyH_ready (rs := [14]) (by kernel_rfl) (by simp) ?_
                        refine AllReadyH.cons (o := { dst := some 76, op := _, type := _, pos := _, after := _, guard := _ }) rfl (fun Kk hKk => ?_) AllReadyH.nil
                        go_simp
                        refine (unhide HE _ _ _ _ (unhide H5)).mono ?_
                        rintro _ w6 ⟨rfl, hbl⟩
                        have HB := hide (bthen (unhide HB) hbl)
                        have HA := hide ((unhide HA).below hbl)
                        have HA2 := hide ((unhide HA2).below hbl)
                        clear hbl
                        (try go_wp2_with fail)
                        refine hKk.out _ _ ?_ (fun hHeld => ?_)
                        · (try dsimp only)
                          exact ⟨unhide HA, unhide HA2⟩
                        clear hKk Kk
                        (try simp only [List.setIfInBounds_toArray, List.set_cons_zero, List.set_cons_succ])
                        refine anyH_at #[true, true, true, true, true, true, true, true, true, true, true, true, true, true, true, false] (by kernel_rfl) ?_
                        refine wpAnyH_take (i := 15) (oi := { dst := some 6, op := _, type := _, pos := _, after := _, guard := _ }) (v := ?vv15) rfl (by kernel_rfl) (by kernel_rfl) (by kernel_rfl) (fun _ _ _ h => h) (Or.inl ⟨by rfl, ?hy15⟩) (by assumption) ?rest15
                        case hy15 => ((intro w hSw; (try dsimp only at hSw); go_simp) <;> with_reducible rfl)
                        case rest15 =>
                          (try simp only [Act.put, List.setIfInBounds_toArray, List.set_cons_zero, List.set_cons_succ])
                          refine anyH_at #[true, true, true, true, true, true, true, true, true, true, true, true, true, true, true, true] (by kernel_rfl) ?_
                          refine wpAnyH_done (by kernel_rfl) ?_ _
                          go_wp2
                          go_ret
                          exact ⟨rfl, unhide HB⟩
set_option maxRecDepth 100000 in
set_option maxHeartbeats 2000000 in
theorem refMul_e1 {w x y K1 X1 S1 K2 X2 S2 E V : Int} {n1 n2 : Bool} (W : World) (HO1 : Hid (∀ W, Calls Try.prog 24 #[.int .i64 w, .int .u64 x] W fun r W' => r = .returned (.agg #[.bool n1, .int .i64 K1, .int .i64 X1, .int .u64 S1]) ∧ Below W.heap.size W W')) (HO2 : Hid (∀ W, Calls Try.prog 24 #[.int .i64 w, .int .u64 y] W fun r W' => r = .returned (.agg #[.bool n2, .int .i64 K2, .int .i64 X2, .int .u64 S2]) ∧ Below W.heap.size W W')) (a3 : (K1 == 3) = false) (b3 : (K2 == 3) = false) (a2 : (K1 == 2) = false) (a0 : (K1 == 0) = false) (b2 : (K2 == 2) = false) (HS : Hid (0 ≤ S1 ∧ S1 < 18446744073709551616 ∧ S1.toNat < pw 2 ∧ 0 ≤ S2 ∧ S2 < 18446744073709551616 ∧ S2.toNat < pw 2)) (kx : IntKind.i64.wrap (X1 + X2) = E) (HE : Hid (∀ (a : Option Addr) (m c : Nat) (W : World), IsNat W (.slice a m c) (S1.toNat * S2.toNat) → Calls Try.prog 27 #[.int .i64 w, .bool (n1 != n2), .agg #[.slice a m c], .int .i64 E] W fun r W' => r = .returned (.int .u64 V) ∧ Below W.heap.size W W')) :
    Calls Try.prog 10 #[.int .i64 w, .int .u64 x, .int .u64 y] W fun r W' => r = .returned (.int .u64 V) ∧ Below W.heap.size W W' := by
  go_enter Try.func10, Try.ntmps10
  go_wp2_with fail
  refine (unhide HO1 _).mono ?_
  rintro _ w1 ⟨rfl, hb⟩
  have HB := hide (balloc hb (.cells #[.bool n1, .int .i64 K1, .int .i64 X1, .int .u64 S1] 41))
  have HA := hide (at4_new w1 (.bool n1) (.int .i64 K1) (.int .i64 X1) (.int .u64 S1) 41)
  clear hb
  go_wp2_with fail
  refine (unhide HO2 _).mono ?_
  rintro _ w2 ⟨rfl, hb⟩
  have HB := hide (balloc (bthen (unhide HB) hb) (.cells #[.bool n2, .int .i64 K2, .int .i64 X2, .int .u64 S2] 41))
  have HA := hide (((unhide HA).below hb).below (below1 _ (.cells #[.bool n2, .int .i64 K2, .int .i64 X2, .int .u64 S2] 41)))
  have HA2 := hide (at4_new w2 (.bool n2) (.int .i64 K2) (.int .i64 X2) (.int .u64 S2) 41)
  clear hb
  obtain ⟨c0, c1, -, -⟩ := unhide HA
  obtain ⟨d0, d1, -, -⟩ := unhide HA2
  go_wp2_with fail
  clear c0 c1 d0 d1
  have HB := hide ((unhide HB).drew)
  have HA := hide ((unhide HA).below ((Below.refl _ _).drew))
  have HA2 := hide ((unhide HA2).below ((Below.refl _ _).drew))
  refine wp_region_held_drew (S := fun w' => (w'.cell? ⟨w1.heap.size, 0, none⟩ = some (.bool n1) ∧ w'.cell? ⟨w1.heap.size, 1, none⟩ = some (.int .i64 K1) ∧ w'.cell? ⟨w1.heap.size, 2, none⟩ = some (.int .i64 X1) ∧ w'.cell? ⟨w1.heap.size, 3, none⟩ = some (.int .u64 S1)) ∧ (w'.cell? ⟨w2.heap.size, 0, none⟩ = some (.bool n2) ∧ w'.cell? ⟨w2.heap.size, 1, none⟩ = some (.int .i64 K2) ∧ w'.cell? ⟨w2.heap.size, 2, none⟩ = some (.int .i64 X2) ∧ w'.cell? ⟨w2.heap.size, 3, none⟩ = some (.int .u64 S2))) (by kernel_rfl) ?_ (fun hHeld => ?_)
  · (try dsimp only)
    exact ⟨unhide HA, unhide HA2⟩
  refine anyH_at #[false, false, false, false, false, false, false, false, false, false, false, false, false, false, false, false] (by kernel_rfl) ?_
  refine wpAnyH_take (i := 0) (oi := { dst := some 62, op := _, type := _, pos := _, after := _, guard := _ }) (v := ?vv0) rfl (by kernel_rfl) (by kernel_rfl) (by kernel_rfl) (fun _ _ _ h => h) (Or.inl ⟨by rfl, ?hy0⟩) (by assumption) ?rest0
  case hy0 => ((intro w hSw; (try dsimp only at hSw); go_simp) <;> with_reducible rfl)
  case rest0 =>
    (try simp only [Act.put, List.setIfInBounds_toArray, List.set_cons_zero, List.set_cons_succ])
    refine anyH_at #[true, false, false, false, false, false, false, false, false, false, false, false, false, false, false, false] (by kernel_rfl) ?_
    refine wpAnyH_take (i := 1) (oi := { dst := some 63, op := _, type := _, pos := _, after := _, guard := _ }) (v := ?vv1) rfl (by kernel_rfl) (by kernel_rfl) (by kernel_rfl) (fun _ _ _ h => h) (Or.inl ⟨by rfl, ?hy1⟩) (by assumption) ?rest1
    case hy1 => ((intro w hSw; (try dsimp only at hSw); go_simp) <;> with_reducible rfl)
    case rest1 =>
      (try simp only [Act.put, List.setIfInBounds_toArray, List.set_cons_zero, List.set_cons_succ])
      refine anyH_at #[true, true, false, false, false, false, false, false, false, false, false, false, false, false, false, false] (by kernel_rfl) ?_
      refine wpAnyH_take (i := 2) (oi := { dst := some 64, op := _, type := _, pos := _, after := _, guard := _ }) (v := ?vv2) rfl (by kernel_rfl) (by kernel_rfl) (by kernel_rfl) (fun _ _ _ h => h) (Or.inl ⟨by rfl, ?hy2⟩) (by assumption) ?rest2
      case hy2 => ((intro w hSw; (try dsimp only at hSw); go_simp) <;> with_reducible rfl)
      case rest2 =>
        (try simp only [Act.put, List.setIfInBounds_toArray, List.set_cons_zero, List.set_cons_succ])
        refine anyH_at #[true, true, true, false, false, false, false, false, false, false, false, false, false, false, false, false] (by kernel_rfl) ?_
        refine wpAnyH_take (i := 3) (oi := { dst := some 65, op := _, type := _, pos := _, after := _, guard := _ }) (v := ?vv3) rfl (by kernel_rfl) (by kernel_rfl) (by kernel_rfl) (fun _ _ _ h => h) (Or.inl ⟨by rfl, ?hy3⟩) (by assumption) ?rest3
        case hy3 => ((intro w hSw; (try dsimp only at hSw); go_simp) <;> with_reducible rfl)
        case rest3 =>
          (try simp only [Act.put, List.setIfInBounds_toArray, List.set_cons_zero, List.set_cons_succ])
          refine anyH_at #[true, true, true, true, false, false, false, false, false, false, false, false, false, false, false, false] (by kernel_rfl) ?_
          refine wpAnyH_take (i := 5) (oi := { dst := some 67, op := _, type := _, pos := _, after := _, guard := _ }) (v := ?vv5) rfl (by kernel_rfl) (by kernel_rfl) (by kernel_rfl) (fun _ _ _ h => h) (Or.inl ⟨by rfl, ?hy5⟩) (by assumption) ?rest5
          case hy5 => ((intro w hSw; (try dsimp only at hSw); go_simp) <;> with_reducible rfl)
          case rest5 =>
            (try simp only [Act.put, List.setIfInBounds_toArray, List.set_cons_zero, List.set_cons_succ])
            refine anyH_at #[true, true, true, true, false, true, false, false, false, false, false, false, false, false, false, false] (by kernel_rfl) ?_
            refine wpAnyH_take (i := 6) (oi := { dst := some 68, op := _, type := _, pos := _, after := _, guard := _ }) (v := ?vv6) rfl (by kernel_rfl) (by kernel_rfl) (by kernel_rfl) (fun _ _ _ h => h) (Or.inl ⟨by rfl, ?hy6⟩) (by assumption) ?rest6
            case hy6 => ((intro w hSw; (try dsimp only at hSw); go_simp) <;> with_reducible rfl)
            case rest6 =>
              (try simp only [Act.put, List.setIfInBounds_toArray, List.set_cons_zero, List.set_cons_succ])
              refine anyH_at #[true, true, true, true, false, true, true, false, false, false, false, false, false, false, false, false] (by kernel_rfl) ?_
              refine wpAnyH_take (i := 9) (oi := { dst := some 71, op := _, type := _, pos := _, after := _, guard := _ }) (v := ?vv9) rfl (by kernel_rfl) (by kernel_rfl) (by kernel_rfl) (fun _ _ _ h => h) (Or.inl ⟨by rfl, ?hy9⟩) (by assumption) ?rest9
              case hy9 => ((intro w hSw; (try dsimp only at hSw); go_simp) <;> with_reducible rfl)
              case rest9 =>
                (try simp only [Act.put, List.setIfInBounds_toArray, List.set_cons_zero, List.set_cons_succ])
                refine anyH_at #[true, true, true, true, false, true, true, false, false, true, false, false, false, false, false, false] (by kernel_rfl) ?_
                refine wpAnyH_take (i := 10) (oi := { dst := some 72, op := _, type := _, pos := _, after := _, guard := _ }) (v := ?vv10) rfl (by kernel_rfl) (by kernel_rfl) (by kernel_rfl) (fun _ _ _ h => h) (Or.inl ⟨by rfl, ?hy10⟩) (by assumption) ?rest10
                case hy10 => ((intro w hSw; (try dsimp only at hSw); go_simp) <;> with_reducible rfl)
                case rest10 =>
                  (try simp only [Act.put, List.setIfInBounds_toArray, List.set_cons_zero, List.set_cons_succ])
                  refine anyH_at #[true, true, true, true, false, true, true, false, false, true, true, false, false, false, false, false] (by kernel_rfl) ?_
                  refine wpAnyH_take (i := 11) (oi := { dst := some 73, op := _, type := _, pos := _, after := _, guard := _ }) (v := ?vv11) rfl (by kernel_rfl) (by kernel_rfl) (by kernel_rfl) (fun _ _ _ h => h) (Or.inl ⟨by rfl, ?hy11⟩) (by assumption) ?rest11
                  case hy11 => ((intro w hSw; (try dsimp only at hSw); go_simp) <;> with_reducible rfl)
                  case rest11 =>
                    (try simp only [Act.put, List.setIfInBounds_toArray, List.set_cons_zero, List.set_cons_succ])
                    refine anyH_at #[true, true, true, true, false, true, true, false, false, true, true, true, false, false, false, false] (by kernel_rfl) ?_
                    refine wpAnyH_take (i := 12) (oi := { dst := some 74, op := _, type := _, pos := _, after := _, guard := _ }) (v := ?vv12) rfl (by kernel_rfl) (by kernel_rfl) (by kernel_rfl) (fun _ _ _ h => h) (Or.inl ⟨by rfl, ?hy12⟩) (by assumption) ?rest12
                    case hy12 => ((intro w hSw; (try dsimp only at hSw); go_simp) <;> with_reducible rfl)
                    case rest12 =>
                      (try simp only [Act.put, List.setIfInBounds_toArray, List.set_cons_zero, List.set_cons_succ])
                      refine anyH_at #[true, true, true, true, false, true, true, false, false, true, true, true, true, false, false, false] (by kernel_rfl) ?_
                      refine wpAnyH_take (i := 13) (oi := { dst := some 75, op := _, type := _, pos := _, after := _, guard := _ }) (v := ?vv13) rfl (by kernel_rfl) (by kernel_rfl) (by kernel_rfl) (fun _ _ _ h => h) (Or.inl ⟨by rfl, ?hy13⟩) (by assumption) ?rest13
                      case hy13 => ((intro w hSw; (try dsimp only at hSw); go_simp) <;> with_reducible rfl)
                      case rest13 =>
                        (try simp only [Act.put, List.setIfInBounds_toArray, List.set_cons_zero, List.set_cons_succ])
                        refine anyH_at #[true, true, true, true, false, true, true, false, false, true, true, true, true, true, false, false] (by kernel_rfl) ?_
                        refine wpAnyH_ready (rs := [4]) (by kernel_rfl) (by simp) ?_
                        refine AllReadyH.cons (o := { dst := some 66, op := _, type := _, pos := _, after := _, guard := _ }) rfl (fun Kk hKk => ?_) AllReadyH.nil
                        go_simp
                        refine (refOf_any S1 _ (unhide HS).1 (unhide HS).2.1).mono ?_
                        rintro _ w3 ⟨s3, rfl, hN, hbl⟩
                        obtain ⟨a3, m3, c3, rfl⟩ := hN.slice
                        have HB := hide (bthen (unhide HB) hbl)
                        have HA := hide ((unhide HA).below hbl)
                        have HA2 := hide ((unhide HA2).below hbl)
                        have H3 := hide hN
                        clear hbl hN
                        (try go_wp2_with fail)
                        refine hKk.out _ _ ?_ (fun hHeld => ?_)
                        · (try dsimp only)
                          exact ⟨unhide HA, unhide HA2⟩
                        clear hKk Kk
                        (try simp only [List.setIfInBounds_toArray, List.set_cons_zero, List.set_cons_succ])
                        refine anyH_at #[true, true, true, true, true, true, true, false, false, true, true, true, true, true, false, false] (by kernel_rfl) ?_
                        refine wpAnyH_ready (rs := [7]) (by kernel_rfl) (by simp) ?_
                        refine AllReadyH.cons (o := { dst := some 69, op := _, type := _, pos := _, after := _, guard := _ }) rfl (fun Kk hKk => ?_) AllReadyH.nil
                        go_simp
                        refine (refOf_any S2 _ (unhide HS).2.2.2.1 (unhide HS).2.2.2.2.1).mono ?_
                        rintro _ w4 ⟨s4, rfl, hN, hbl⟩
                        obtain ⟨a4, m4, c4, rfl⟩ := hN.slice
                        have HB := hide (bthen (unhide HB) hbl)
                        have HA := hide ((unhide HA).below hbl)
                        have HA2 := hide ((unhide HA2).below hbl)
                        have H3 := hide ((unhide H3).below hbl)
                        have H4 := hide hN
                        clear hbl hN
                        (try go_wp2_with fail)
                        refine hKk.out _ _ ?_ (fun hHeld => ?_)
                        · (try dsimp only)
                          exact ⟨unhide HA, unhide HA2⟩
                        clear hKk Kk
                        (try simp only [List.setIfInBounds_toArray, List.set_cons_zero, List.set_cons_succ])
                        refine anyH_at #[true, true, true, true, true, true, true, true, false, true, true, true, true, true, false, false] (by kernel_rfl) ?_
                        refine wpAnyH_ready (rs := [8]) (by kernel_rfl) (by simp) ?_
                        refine AllReadyH.cons (o := { dst := some 70, op := _, type := _, pos := _, after := _, guard := _ }) rfl (fun Kk hKk => ?_) AllReadyH.nil
                        go_simp
                        refine (refMul_any _ _ _ _ _ _ _ _ _ (unhide H3) (unhide H4) (Nat.le_trans ((unhide H3).short (unhide HS).2.2.1) (by omega)) (Nat.le_trans ((unhide H4).short (unhide HS).2.2.2.2.2) (by omega))).mono ?_
                        rintro _ w5 ⟨s5, rfl, hN, hbl⟩
                        obtain ⟨a5, m5, c5, rfl⟩ := hN.slice
                        have HB := hide (bthen (unhide HB) hbl)
                        have HA := hide ((unhide HA).below hbl)
                        have HA2 := hide ((unhide HA2).below hbl)
                        have H5 := hide hN
                        clear hbl hN
                        (try go_wp2_with fail)
                        refine hKk.out _ _ ?_ (fun hHeld => ?_)
                        · (try dsimp only)
                          exact ⟨unhide HA, unhide HA2⟩
                        clear hKk Kk
                        (try simp only [List.setIfInBounds_toArray, List.set_cons_zero, List.set_cons_succ])
                        refine anyH_at #[true, true, true, true, true, true, true, true, true, true, true, true, true, true, false, false] (by kernel_rfl) ?_
                        refine wpAnyH_ready (rs := [14]) (by kernel_rfl) (by simp) ?_
                        refine AllReadyH.cons (o := { dst := some 76, op := _, type := _, pos := _, after := _, guard := _ }) rfl (fun Kk hKk => ?_) AllReadyH.nil
                        go_simp
                        refine (unhide HE _ _ _ _ (unhide H5)).mono ?_
                        rintro _ w6 ⟨rfl, hbl⟩
                        have HB := hide (bthen (unhide HB) hbl)
                        have HA := hide ((unhide HA).below hbl)
                        have HA2 := hide ((unhide HA2).below hbl)
                        clear hbl
                        (try go_wp2_with fail)
                        refine hKk.out _ _ ?_ (fun hHeld => ?_)
                        · (try dsimp only)
                          exact ⟨unhide HA, unhide HA2⟩
                        clear hKk Kk
                        (try simp only [List.setIfInBounds_toArray, List.set_cons_zero, List.set_cons_succ])
                        refine anyH_at #[true, true, true, true, true, true, true, true, true, true, true, true, true, true, true, false] (by kernel_rfl) ?_
                        refine wpAnyH_take (i := 15) (oi := { dst := some 6, op := _, type := _, pos := _, after := _, guard := _ }) (v := ?vv15) rfl (by kernel_rfl) (by kernel_rfl) (by kernel_rfl) (fun _ _ _ h => h) (Or.inl ⟨by rfl, ?hy15⟩) (by assumption) ?rest15
                        case hy15 => ((intro w hSw; (try dsimp only at hSw); go_simp) <;> with_reducible rfl)
                        case rest15 =>
                          (try simp only [Act.put, List.setIfInBounds_toArray, List.set_cons_zero, List.set_cons_succ])
                          refine anyH_at #[true, true, true, true, true, true, true, true, true, true, true, true, true, true, true, true] (by kernel_rfl) ?_
                          refine wpAnyH_done (by kernel_rfl) ?_ _
                          go_wp2
                          go_ret
                          exact ⟨rfl, unhide HB⟩
set_option maxRecDepth 100000 in
set_option maxHeartbeats 2000000 in
theorem refScale_oth {w x N X S V K : Int} {n : Bool} (W : World) (k1 : (K == 1) = false) (HO : Hid (∀ W, Calls Try.prog 24 #[.int .i64 w, .int .u64 x] W fun r W' => r = .returned (.agg #[.bool n, .int .i64 K, .int .i64 X, .int .u64 S]) ∧ Below W.heap.size W W')) (HC : Hid (∀ W, Calls Try.prog 32 #[.int .i64 w, .agg #[.bool n, .int .i64 K, .int .i64 X, .int .u64 S]] W fun r W' => r = .returned (.int .u64 V) ∧ Below W.heap.size W W')) :
    Calls Try.prog 14 #[.int .i64 w, .int .u64 x, .int .i64 N] W fun r W' => r = .returned (.int .u64 V) ∧ Below W.heap.size W W' := by
  go_enter Try.func14, Try.ntmps14
  go_wp2_with fail
  refine (unhide HO _).mono ?_
  rintro _ w1 ⟨rfl, hb⟩
  have HB := hide (balloc hb (.cells #[.bool n, .int .i64 K, .int .i64 X, .int .u64 S] 41))
  have HA := hide (at4_new w1 (.bool n) (.int .i64 K) (.int .i64 X) (.int .u64 S) 41)
  clear hb
  go_wp2_with fail
  refine (unhide HC _).mono ?_
  rintro _ w3 ⟨rfl, hb⟩
  have HB := hide (bthen (unhide HB) hb)
  clear hb
  go_wp2_with fail
  go_ret
  exact ⟨rfl, unhide HB⟩
set_option maxRecDepth 100000 in
set_option maxHeartbeats 2000000 in
theorem refScale_lo {w x N X S V E : Int} {n : Bool} (W : World) (hn : N < -9000) (kx : IntKind.i64.wrap (X + -9000) = E) (HS : Hid (0 ≤ S ∧ S < 18446744073709551616)) (HE : Hid (∀ (a : Option Addr) (m c : Nat) (W : World), IsNat W (.slice a m c) S.toNat → Calls Try.prog 27 #[.int .i64 w, .bool n, .agg #[.slice a m c], .int .i64 E] W fun r W' => r = .returned (.int .u64 V) ∧ Below W.heap.size W W')) (HO : Hid (∀ W, Calls Try.prog 24 #[.int .i64 w, .int .u64 x] W fun r W' => r = .returned (.agg #[.bool n, .int .i64 1, .int .i64 X, .int .u64 S]) ∧ Below W.heap.size W W')) :
    Calls Try.prog 14 #[.int .i64 w, .int .u64 x, .int .i64 N] W fun r W' => r = .returned (.int .u64 V) ∧ Below W.heap.size W W' := by
  go_enter Try.func14, Try.ntmps14
  go_wp2_with fail
  refine (unhide HO _).mono ?_
  rintro _ w1 ⟨rfl, hb⟩
  have HB := hide (balloc hb (.cells #[.bool n, .int .i64 1, .int .i64 X, .int .u64 S] 41))
  have HA := hide (at4_new w1 (.bool n) (.int .i64 1) (.int .i64 X) (.int .u64 S) 41)
  clear hb
  go_wp2_with fail
  have HB := hide ((unhide HB).drew)
  have HA := hide ((unhide HA).below ((Below.refl _ _).drew))
  refine wp_region_held_drew (S := fun w' => w'.cell? ⟨w1.heap.size, 0, none⟩ = some (.bool n) ∧ w'.cell? ⟨w1.heap.size, 1, none⟩ = some (.int .i64 1) ∧ w'.cell? ⟨w1.heap.size, 2, none⟩ = some (.int .i64 X) ∧ w'.cell? ⟨w1.heap.size, 3, none⟩ = some (.int .u64 S)) (by kernel_rfl) ?_ (fun hHeld => ?_)
  · (try dsimp only)
    exact unhide HA
  refine anyH_at #[false, false, false, false, false, false, false, false, false, false, false, false, false, false] (by kernel_rfl) ?_
  refine wpAnyH_take (i := 0) (oi := { dst := some 14, op := _, type := _, pos := _, after := _, guard := _ }) (v := ?vv0) rfl (by kernel_rfl) (by kernel_rfl) (by kernel_rfl) (fun _ _ _ h => h) (Or.inl ⟨by rfl, ?hy0⟩) (by assumption) ?rest0
  case hy0 => ((intro w hSw; (try dsimp only at hSw); go_simp) <;> with_reducible rfl)
  case rest0 =>
    (try simp only [Act.put, List.setIfInBounds_toArray, List.set_cons_zero, List.set_cons_succ])
    refine anyH_at #[true, false, false, false, false, false, false, false, false, false, false, false, false, false] (by kernel_rfl) ?_
    refine wpAnyH_take (i := 1) (oi := { dst := some 15, op := _, type := _, pos := _, after := _, guard := _ }) (v := ?vv1) rfl (by kernel_rfl) (by kernel_rfl) (by kernel_rfl) (fun _ _ _ h => h) (Or.inl ⟨by rfl, ?hy1⟩) (by assumption) ?rest1
    case hy1 => ((intro w hSw; (try dsimp only at hSw); go_simp) <;> with_reducible rfl)
    case rest1 =>
      (try simp only [Act.put, List.setIfInBounds_toArray, List.set_cons_zero, List.set_cons_succ])
      refine anyH_at #[true, true, false, false, false, false, false, false, false, false, false, false, false, false] (by kernel_rfl) ?_
      refine wpAnyH_take (i := 2) (oi := { dst := some 16, op := _, type := _, pos := _, after := _, guard := _ }) (v := ?vv2) rfl (by kernel_rfl) (by kernel_rfl) (by kernel_rfl) (fun _ _ _ h => h) (Or.inl ⟨by rfl, ?hy2⟩) (by assumption) ?rest2
      case hy2 => ((intro w hSw; (try dsimp only at hSw); go_simp) <;> with_reducible rfl)
      case rest2 =>
        (try simp only [Act.put, List.setIfInBounds_toArray, List.set_cons_zero, List.set_cons_succ])
        refine anyH_at #[true, true, true, false, false, false, false, false, false, false, false, false, false, false] (by kernel_rfl) ?_
        refine wpAnyH_take (i := 3) (oi := { dst := some 17, op := _, type := _, pos := _, after := _, guard := _ }) (v := ?vv3) rfl (by kernel_rfl) (by kernel_rfl) (by kernel_rfl) (fun _ _ _ h => h) (Or.inl ⟨by rfl, ?hy3⟩) (by assumption) ?rest3
        case hy3 => ((intro w hSw; (try dsimp only at hSw); go_simp) <;> with_reducible rfl)
        case rest3 =>
          (try simp only [Act.put, List.setIfInBounds_toArray, List.set_cons_zero, List.set_cons_succ])
          refine anyH_at #[true, true, true, true, false, false, false, false, false, false, false, false, false, false] (by kernel_rfl) ?_
          refine wpAnyH_take (i := 4) (oi := { dst := some 18, op := _, type := _, pos := _, after := _, guard := _ }) (v := ?vv4) rfl (by kernel_rfl) (by kernel_rfl) (by kernel_rfl) (fun _ _ _ h => h) (Or.inl ⟨by rfl, ?hy4⟩) (by assumption) ?rest4
          case hy4 => ((intro w hSw; (try dsimp only at hSw); go_simp) <;> with_reducible rfl)
          case rest4 =>
            (try simp only [Act.put, List.setIfInBounds_toArray, List.set_cons_zero, List.set_cons_succ])
            refine anyH_at #[true, true, true, true, true, false, false, false, false, false, false, false, false, false] (by kernel_rfl) ?_
            refine wpAnyH_take (i := 6) (oi := { dst := some 20, op := _, type := _, pos := _, after := _, guard := _ }) (v := ?vv6) rfl (by kernel_rfl) (by kernel_rfl) (by kernel_rfl) (fun _ _ _ h => h) (Or.inl ⟨by rfl, ?hy6⟩) (by assumption) ?rest6
            case hy6 => ((intro w hSw; (try dsimp only at hSw); go_simp) <;> with_reducible rfl)
            case rest6 =>
              (try simp only [Act.put, List.setIfInBounds_toArray, List.set_cons_zero, List.set_cons_succ])
              refine anyH_at #[true, true, true, true, true, false, true, false, false, false, false, false, false, false] (by kernel_rfl) ?_
              refine wpAnyH_take (i := 7) (oi := { dst := some 21, op := _, type := _, pos := _, after := _, guard := _ }) (v := ?vv7) rfl (by kernel_rfl) (by kernel_rfl) (by kernel_rfl) (fun _ _ _ h => h) (Or.inl ⟨by rfl, ?hy7⟩) (by assumption) ?rest7
              case hy7 => ((intro w hSw; (try dsimp only at hSw); go_simp) <;> with_reducible rfl)
              case rest7 =>
                (try simp only [Act.put, List.setIfInBounds_toArray, List.set_cons_zero, List.set_cons_succ])
                refine anyH_at #[true, true, true, true, true, false, true, true, false, false, false, false, false, false] (by kernel_rfl) ?_
                refine wpAnyH_take (i := 8) (oi := { dst := some 22, op := _, type := _, pos := _, after := _, guard := _ }) (v := ?vv8) rfl (by kernel_rfl) (by kernel_rfl) (by kernel_rfl) (fun _ _ _ h => h) (Or.inl ⟨by rfl, ?hy8⟩) (by assumption) ?rest8
                case hy8 => ((intro w hSw; (try dsimp only at hSw); go_simp) <;> with_reducible rfl)
                case rest8 =>
                  (try simp only [Act.put, List.setIfInBounds_toArray, List.set_cons_zero, List.set_cons_succ])
                  refine anyH_at #[true, true, true, true, true, false, true, true, true, false, false, false, false, false] (by kernel_rfl) ?_
                  refine wpAnyH_take (i := 9) (oi := { dst := some 23, op := _, type := _, pos := _, after := _, guard := _ }) (v := ?vv9) rfl (by kernel_rfl) (by kernel_rfl) (by kernel_rfl) (fun _ _ _ h => h) (Or.inl ⟨by rfl, ?hy9⟩) (by assumption) ?rest9
                  case hy9 => ((intro w hSw; (try dsimp only at hSw); go_simp) <;> with_reducible rfl)
                  case rest9 =>
                    (try simp only [Act.put, List.setIfInBounds_toArray, List.set_cons_zero, List.set_cons_succ])
                    refine anyH_at #[true, true, true, true, true, false, true, true, true, true, false, false, false, false] (by kernel_rfl) ?_
                    refine wpAnyH_take (i := 10) (oi := { dst := some 24, op := _, type := _, pos := _, after := _, guard := _ }) (v := ?vv10) rfl (by kernel_rfl) (by kernel_rfl) (by kernel_rfl) (fun _ _ _ h => h) (Or.inl ⟨by rfl, ?hy10⟩) (by assumption) ?rest10
                    case hy10 => ((intro w hSw; (try dsimp only at hSw); go_simp) <;> with_reducible rfl)
                    case rest10 =>
                      (try simp only [Act.put, List.setIfInBounds_toArray, List.set_cons_zero, List.set_cons_succ])
                      refine anyH_at #[true, true, true, true, true, false, true, true, true, true, true, false, false, false] (by kernel_rfl) ?_
                      refine wpAnyH_take (i := 11) (oi := { dst := some 25, op := _, type := _, pos := _, after := _, guard := _ }) (v := ?vv11) rfl (by kernel_rfl) (by kernel_rfl) (by kernel_rfl) (fun _ _ _ h => h) (Or.inl ⟨by rfl, ?hy11⟩) (by assumption) ?rest11
                      case hy11 => ((intro w hSw; (try dsimp only at hSw); go_simp) <;> with_reducible rfl)
                      case rest11 =>
                        (try simp only [Act.put, List.setIfInBounds_toArray, List.set_cons_zero, List.set_cons_succ])
                        refine anyH_at #[true, true, true, true, true, false, true, true, true, true, true, true, false, false] (by kernel_rfl) ?_
                        refine wpAnyH_ready (rs := [5]) (by kernel_rfl) (by simp) ?_
                        refine AllReadyH.cons (o := { dst := some 19, op := _, type := _, pos := _, after := _, guard := _ }) rfl (fun Kk hKk => ?_) AllReadyH.nil
                        go_simp
                        refine (refOf_any S _ (unhide HS).1 (unhide HS).2).mono ?_
                        rintro _ w3 ⟨s3, rfl, hN, hbl⟩
                        obtain ⟨a3, m3, c3, rfl⟩ := hN.slice
                        have HB := hide (bthen (unhide HB) hbl)
                        have HA := hide ((unhide HA).below hbl)
                        have H3 := hide hN
                        clear hbl hN
                        (try go_wp2_with fail)
                        refine hKk.out _ _ ?_ (fun hHeld => ?_)
                        · (try dsimp only)
                          exact unhide HA
                        clear hKk Kk
                        (try simp only [List.setIfInBounds_toArray, List.set_cons_zero, List.set_cons_succ])
                        refine anyH_at #[true, true, true, true, true, true, true, true, true, true, true, true, false, false] (by kernel_rfl) ?_
                        refine wpAnyH_ready (rs := [12]) (by kernel_rfl) (by simp) ?_
                        refine AllReadyH.cons (o := { dst := some 26, op := _, type := _, pos := _, after := _, guard := _ }) rfl (fun Kk hKk => ?_) AllReadyH.nil
                        go_simp
                        refine (unhide HE _ _ _ _ (unhide H3)).mono ?_
                        rintro _ w6 ⟨rfl, hbl⟩
                        have HB := hide (bthen (unhide HB) hbl)
                        have HA := hide ((unhide HA).below hbl)
                        clear hbl
                        (try go_wp2_with fail)
                        refine hKk.out _ _ ?_ (fun hHeld => ?_)
                        · (try dsimp only)
                          exact unhide HA
                        clear hKk Kk
                        (try simp only [List.setIfInBounds_toArray, List.set_cons_zero, List.set_cons_succ])
                        refine anyH_at #[true, true, true, true, true, true, true, true, true, true, true, true, true, false] (by kernel_rfl) ?_
                        refine wpAnyH_take (i := 13) (oi := { dst := some 6, op := _, type := _, pos := _, after := _, guard := _ }) (v := ?vv13) rfl (by kernel_rfl) (by kernel_rfl) (by kernel_rfl) (fun _ _ _ h => h) (Or.inl ⟨by rfl, ?hy13⟩) (by assumption) ?rest13
                        case hy13 => ((intro w hSw; (try dsimp only at hSw); go_simp) <;> with_reducible rfl)
                        case rest13 =>
                          (try simp only [Act.put, List.setIfInBounds_toArray, List.set_cons_zero, List.set_cons_succ])
                          refine anyH_at #[true, true, true, true, true, true, true, true, true, true, true, true, true, true] (by kernel_rfl) ?_
                          refine wpAnyH_done (by kernel_rfl) ?_ _
                          go_wp2
                          go_ret
                          exact ⟨rfl, unhide HB⟩
set_option maxRecDepth 100000 in
set_option maxHeartbeats 2000000 in
theorem refScale_mid {w x N X S V E : Int} {n : Bool} (W : World) (hn : ¬ N < -9000) (hm : ¬ 9000 < N) (kx : IntKind.i64.wrap (X + N) = E) (HS : Hid (0 ≤ S ∧ S < 18446744073709551616)) (HE : Hid (∀ (a : Option Addr) (m c : Nat) (W : World), IsNat W (.slice a m c) S.toNat → Calls Try.prog 27 #[.int .i64 w, .bool n, .agg #[.slice a m c], .int .i64 E] W fun r W' => r = .returned (.int .u64 V) ∧ Below W.heap.size W W')) (HO : Hid (∀ W, Calls Try.prog 24 #[.int .i64 w, .int .u64 x] W fun r W' => r = .returned (.agg #[.bool n, .int .i64 1, .int .i64 X, .int .u64 S]) ∧ Below W.heap.size W W')) :
    Calls Try.prog 14 #[.int .i64 w, .int .u64 x, .int .i64 N] W fun r W' => r = .returned (.int .u64 V) ∧ Below W.heap.size W W' := by
  go_enter Try.func14, Try.ntmps14
  go_wp2_with fail
  refine (unhide HO _).mono ?_
  rintro _ w1 ⟨rfl, hb⟩
  have HB := hide (balloc hb (.cells #[.bool n, .int .i64 1, .int .i64 X, .int .u64 S] 41))
  have HA := hide (at4_new w1 (.bool n) (.int .i64 1) (.int .i64 X) (.int .u64 S) 41)
  clear hb
  go_wp2_with fail
  have HB := hide ((unhide HB).drew)
  have HA := hide ((unhide HA).below ((Below.refl _ _).drew))
  refine wp_region_held_drew (S := fun w' => w'.cell? ⟨w1.heap.size, 0, none⟩ = some (.bool n) ∧ w'.cell? ⟨w1.heap.size, 1, none⟩ = some (.int .i64 1) ∧ w'.cell? ⟨w1.heap.size, 2, none⟩ = some (.int .i64 X) ∧ w'.cell? ⟨w1.heap.size, 3, none⟩ = some (.int .u64 S)) (by kernel_rfl) ?_ (fun hHeld => ?_)
  · (try dsimp only)
    exact unhide HA
  refine anyH_at #[false, false, false, false, false, false, false, false, false, false, false, false, false, false] (by kernel_rfl) ?_
  refine wpAnyH_take (i := 0) (oi := { dst := some 14, op := _, type := _, pos := _, after := _, guard := _ }) (v := ?vv0) rfl (by kernel_rfl) (by kernel_rfl) (by kernel_rfl) (fun _ _ _ h => h) (Or.inl ⟨by rfl, ?hy0⟩) (by assumption) ?rest0
  case hy0 => ((intro w hSw; (try dsimp only at hSw); go_simp) <;> with_reducible rfl)
  case rest0 =>
    (try simp only [Act.put, List.setIfInBounds_toArray, List.set_cons_zero, List.set_cons_succ])
    refine anyH_at #[true, false, false, false, false, false, false, false, false, false, false, false, false, false] (by kernel_rfl) ?_
    refine wpAnyH_take (i := 1) (oi := { dst := some 15, op := _, type := _, pos := _, after := _, guard := _ }) (v := ?vv1) rfl (by kernel_rfl) (by kernel_rfl) (by kernel_rfl) (fun _ _ _ h => h) (Or.inl ⟨by rfl, ?hy1⟩) (by assumption) ?rest1
    case hy1 => ((intro w hSw; (try dsimp only at hSw); go_simp) <;> with_reducible rfl)
    case rest1 =>
      (try simp only [Act.put, List.setIfInBounds_toArray, List.set_cons_zero, List.set_cons_succ])
      refine anyH_at #[true, true, false, false, false, false, false, false, false, false, false, false, false, false] (by kernel_rfl) ?_
      refine wpAnyH_take (i := 2) (oi := { dst := some 16, op := _, type := _, pos := _, after := _, guard := _ }) (v := ?vv2) rfl (by kernel_rfl) (by kernel_rfl) (by kernel_rfl) (fun _ _ _ h => h) (Or.inl ⟨by rfl, ?hy2⟩) (by assumption) ?rest2
      case hy2 => ((intro w hSw; (try dsimp only at hSw); go_simp) <;> with_reducible rfl)
      case rest2 =>
        (try simp only [Act.put, List.setIfInBounds_toArray, List.set_cons_zero, List.set_cons_succ])
        refine anyH_at #[true, true, true, false, false, false, false, false, false, false, false, false, false, false] (by kernel_rfl) ?_
        refine wpAnyH_take (i := 3) (oi := { dst := some 17, op := _, type := _, pos := _, after := _, guard := _ }) (v := ?vv3) rfl (by kernel_rfl) (by kernel_rfl) (by kernel_rfl) (fun _ _ _ h => h) (Or.inl ⟨by rfl, ?hy3⟩) (by assumption) ?rest3
        case hy3 => ((intro w hSw; (try dsimp only at hSw); go_simp) <;> with_reducible rfl)
        case rest3 =>
          (try simp only [Act.put, List.setIfInBounds_toArray, List.set_cons_zero, List.set_cons_succ])
          refine anyH_at #[true, true, true, true, false, false, false, false, false, false, false, false, false, false] (by kernel_rfl) ?_
          refine wpAnyH_take (i := 4) (oi := { dst := some 18, op := _, type := _, pos := _, after := _, guard := _ }) (v := ?vv4) rfl (by kernel_rfl) (by kernel_rfl) (by kernel_rfl) (fun _ _ _ h => h) (Or.inl ⟨by rfl, ?hy4⟩) (by assumption) ?rest4
          case hy4 => ((intro w hSw; (try dsimp only at hSw); go_simp) <;> with_reducible rfl)
          case rest4 =>
            (try simp only [Act.put, List.setIfInBounds_toArray, List.set_cons_zero, List.set_cons_succ])
            refine anyH_at #[true, true, true, true, true, false, false, false, false, false, false, false, false, false] (by kernel_rfl) ?_
            refine wpAnyH_take (i := 6) (oi := { dst := some 20, op := _, type := _, pos := _, after := _, guard := _ }) (v := ?vv6) rfl (by kernel_rfl) (by kernel_rfl) (by kernel_rfl) (fun _ _ _ h => h) (Or.inl ⟨by rfl, ?hy6⟩) (by assumption) ?rest6
            case hy6 => ((intro w hSw; (try dsimp only at hSw); go_simp) <;> with_reducible rfl)
            case rest6 =>
              (try simp only [Act.put, List.setIfInBounds_toArray, List.set_cons_zero, List.set_cons_succ])
              refine anyH_at #[true, true, true, true, true, false, true, false, false, false, false, false, false, false] (by kernel_rfl) ?_
              refine wpAnyH_take (i := 7) (oi := { dst := some 21, op := _, type := _, pos := _, after := _, guard := _ }) (v := ?vv7) rfl (by kernel_rfl) (by kernel_rfl) (by kernel_rfl) (fun _ _ _ h => h) (Or.inl ⟨by rfl, ?hy7⟩) (by assumption) ?rest7
              case hy7 => ((intro w hSw; (try dsimp only at hSw); go_simp) <;> with_reducible rfl)
              case rest7 =>
                (try simp only [Act.put, List.setIfInBounds_toArray, List.set_cons_zero, List.set_cons_succ])
                refine anyH_at #[true, true, true, true, true, false, true, true, false, false, false, false, false, false] (by kernel_rfl) ?_
                refine wpAnyH_take (i := 8) (oi := { dst := some 22, op := _, type := _, pos := _, after := _, guard := _ }) (v := ?vv8) rfl (by kernel_rfl) (by kernel_rfl) (by kernel_rfl) (fun _ _ _ h => h) (Or.inl ⟨by rfl, ?hy8⟩) (by assumption) ?rest8
                case hy8 => ((intro w hSw; (try dsimp only at hSw); go_simp) <;> with_reducible rfl)
                case rest8 =>
                  (try simp only [Act.put, List.setIfInBounds_toArray, List.set_cons_zero, List.set_cons_succ])
                  refine anyH_at #[true, true, true, true, true, false, true, true, true, false, false, false, false, false] (by kernel_rfl) ?_
                  refine wpAnyH_take (i := 9) (oi := { dst := some 23, op := _, type := _, pos := _, after := _, guard := _ }) (v := ?vv9) rfl (by kernel_rfl) (by kernel_rfl) (by kernel_rfl) (fun _ _ _ h => h) (Or.inl ⟨by rfl, ?hy9⟩) (by assumption) ?rest9
                  case hy9 => ((intro w hSw; (try dsimp only at hSw); go_simp) <;> with_reducible rfl)
                  case rest9 =>
                    (try simp only [Act.put, List.setIfInBounds_toArray, List.set_cons_zero, List.set_cons_succ])
                    refine anyH_at #[true, true, true, true, true, false, true, true, true, true, false, false, false, false] (by kernel_rfl) ?_
                    refine wpAnyH_take (i := 10) (oi := { dst := some 24, op := _, type := _, pos := _, after := _, guard := _ }) (v := ?vv10) rfl (by kernel_rfl) (by kernel_rfl) (by kernel_rfl) (fun _ _ _ h => h) (Or.inl ⟨by rfl, ?hy10⟩) (by assumption) ?rest10
                    case hy10 => ((intro w hSw; (try dsimp only at hSw); go_simp) <;> with_reducible rfl)
                    case rest10 =>
                      (try simp only [Act.put, List.setIfInBounds_toArray, List.set_cons_zero, List.set_cons_succ])
                      refine anyH_at #[true, true, true, true, true, false, true, true, true, true, true, false, false, false] (by kernel_rfl) ?_
                      refine wpAnyH_take (i := 11) (oi := { dst := some 25, op := _, type := _, pos := _, after := _, guard := _ }) (v := ?vv11) rfl (by kernel_rfl) (by kernel_rfl) (by kernel_rfl) (fun _ _ _ h => h) (Or.inl ⟨by rfl, ?hy11⟩) (by assumption) ?rest11
                      case hy11 => ((intro w hSw; (try dsimp only at hSw); go_simp) <;> with_reducible rfl)
                      case rest11 =>
                        (try simp only [Act.put, List.setIfInBounds_toArray, List.set_cons_zero, List.set_cons_succ])
                        refine anyH_at #[true, true, true, true, true, false, true, true, true, true, true, true, false, false] (by kernel_rfl) ?_
                        refine wpAnyH_ready (rs := [5]) (by kernel_rfl) (by simp) ?_
                        refine AllReadyH.cons (o := { dst := some 19, op := _, type := _, pos := _, after := _, guard := _ }) rfl (fun Kk hKk => ?_) AllReadyH.nil
                        go_simp
                        refine (refOf_any S _ (unhide HS).1 (unhide HS).2).mono ?_
                        rintro _ w3 ⟨s3, rfl, hN, hbl⟩
                        obtain ⟨a3, m3, c3, rfl⟩ := hN.slice
                        have HB := hide (bthen (unhide HB) hbl)
                        have HA := hide ((unhide HA).below hbl)
                        have H3 := hide hN
                        clear hbl hN
                        (try go_wp2_with fail)
                        refine hKk.out _ _ ?_ (fun hHeld => ?_)
                        · (try dsimp only)
                          exact unhide HA
                        clear hKk Kk
                        (try simp only [List.setIfInBounds_toArray, List.set_cons_zero, List.set_cons_succ])
                        refine anyH_at #[true, true, true, true, true, true, true, true, true, true, true, true, false, false] (by kernel_rfl) ?_
                        refine wpAnyH_ready (rs := [12]) (by kernel_rfl) (by simp) ?_
                        refine AllReadyH.cons (o := { dst := some 26, op := _, type := _, pos := _, after := _, guard := _ }) rfl (fun Kk hKk => ?_) AllReadyH.nil
                        go_simp
                        refine (unhide HE _ _ _ _ (unhide H3)).mono ?_
                        rintro _ w6 ⟨rfl, hbl⟩
                        have HB := hide (bthen (unhide HB) hbl)
                        have HA := hide ((unhide HA).below hbl)
                        clear hbl
                        (try go_wp2_with fail)
                        refine hKk.out _ _ ?_ (fun hHeld => ?_)
                        · (try dsimp only)
                          exact unhide HA
                        clear hKk Kk
                        (try simp only [List.setIfInBounds_toArray, List.set_cons_zero, List.set_cons_succ])
                        refine anyH_at #[true, true, true, true, true, true, true, true, true, true, true, true, true, false] (by kernel_rfl) ?_
                        refine wpAnyH_take (i := 13) (oi := { dst := some 6, op := _, type := _, pos := _, after := _, guard := _ }) (v := ?vv13) rfl (by kernel_rfl) (by kernel_rfl) (by kernel_rfl) (fun _ _ _ h => h) (Or.inl ⟨by rfl, ?hy13⟩) (by assumption) ?rest13
                        case hy13 => ((intro w hSw; (try dsimp only at hSw); go_simp) <;> with_reducible rfl)
                        case rest13 =>
                          (try simp only [Act.put, List.setIfInBounds_toArray, List.set_cons_zero, List.set_cons_succ])
                          refine anyH_at #[true, true, true, true, true, true, true, true, true, true, true, true, true, true] (by kernel_rfl) ?_
                          refine wpAnyH_done (by kernel_rfl) ?_ _
                          go_wp2
                          go_ret
                          exact ⟨rfl, unhide HB⟩
set_option maxRecDepth 100000 in
set_option maxHeartbeats 2000000 in
theorem refScale_hi {w x N X S V E : Int} {n : Bool} (W : World) (hm : 9000 < N) (kx : IntKind.i64.wrap (X + 9000) = E) (HS : Hid (0 ≤ S ∧ S < 18446744073709551616)) (HE : Hid (∀ (a : Option Addr) (m c : Nat) (W : World), IsNat W (.slice a m c) S.toNat → Calls Try.prog 27 #[.int .i64 w, .bool n, .agg #[.slice a m c], .int .i64 E] W fun r W' => r = .returned (.int .u64 V) ∧ Below W.heap.size W W')) (HO : Hid (∀ W, Calls Try.prog 24 #[.int .i64 w, .int .u64 x] W fun r W' => r = .returned (.agg #[.bool n, .int .i64 1, .int .i64 X, .int .u64 S]) ∧ Below W.heap.size W W')) :
    Calls Try.prog 14 #[.int .i64 w, .int .u64 x, .int .i64 N] W fun r W' => r = .returned (.int .u64 V) ∧ Below W.heap.size W W' := by
  go_enter Try.func14, Try.ntmps14
  go_wp2_with fail
  refine (unhide HO _).mono ?_
  rintro _ w1 ⟨rfl, hb⟩
  have HB := hide (balloc hb (.cells #[.bool n, .int .i64 1, .int .i64 X, .int .u64 S] 41))
  have HA := hide (at4_new w1 (.bool n) (.int .i64 1) (.int .i64 X) (.int .u64 S) 41)
  clear hb
  go_wp2_with fail
  have HB := hide ((unhide HB).drew)
  have HA := hide ((unhide HA).below ((Below.refl _ _).drew))
  refine wp_region_held_drew (S := fun w' => w'.cell? ⟨w1.heap.size, 0, none⟩ = some (.bool n) ∧ w'.cell? ⟨w1.heap.size, 1, none⟩ = some (.int .i64 1) ∧ w'.cell? ⟨w1.heap.size, 2, none⟩ = some (.int .i64 X) ∧ w'.cell? ⟨w1.heap.size, 3, none⟩ = some (.int .u64 S)) (by kernel_rfl) ?_ (fun hHeld => ?_)
  · (try dsimp only)
    exact unhide HA
  refine anyH_at #[false, false, false, false, false, false, false, false, false, false, false, false, false, false] (by kernel_rfl) ?_
  refine wpAnyH_take (i := 0) (oi := { dst := some 14, op := _, type := _, pos := _, after := _, guard := _ }) (v := ?vv0) rfl (by kernel_rfl) (by kernel_rfl) (by kernel_rfl) (fun _ _ _ h => h) (Or.inl ⟨by rfl, ?hy0⟩) (by assumption) ?rest0
  case hy0 => ((intro w hSw; (try dsimp only at hSw); go_simp) <;> with_reducible rfl)
  case rest0 =>
    (try simp only [Act.put, List.setIfInBounds_toArray, List.set_cons_zero, List.set_cons_succ])
    refine anyH_at #[true, false, false, false, false, false, false, false, false, false, false, false, false, false] (by kernel_rfl) ?_
    refine wpAnyH_take (i := 1) (oi := { dst := some 15, op := _, type := _, pos := _, after := _, guard := _ }) (v := ?vv1) rfl (by kernel_rfl) (by kernel_rfl) (by kernel_rfl) (fun _ _ _ h => h) (Or.inl ⟨by rfl, ?hy1⟩) (by assumption) ?rest1
    case hy1 => ((intro w hSw; (try dsimp only at hSw); go_simp) <;> with_reducible rfl)
    case rest1 =>
      (try simp only [Act.put, List.setIfInBounds_toArray, List.set_cons_zero, List.set_cons_succ])
      refine anyH_at #[true, true, false, false, false, false, false, false, false, false, false, false, false, false] (by kernel_rfl) ?_
      refine wpAnyH_take (i := 2) (oi := { dst := some 16, op := _, type := _, pos := _, after := _, guard := _ }) (v := ?vv2) rfl (by kernel_rfl) (by kernel_rfl) (by kernel_rfl) (fun _ _ _ h => h) (Or.inl ⟨by rfl, ?hy2⟩) (by assumption) ?rest2
      case hy2 => ((intro w hSw; (try dsimp only at hSw); go_simp) <;> with_reducible rfl)
      case rest2 =>
        (try simp only [Act.put, List.setIfInBounds_toArray, List.set_cons_zero, List.set_cons_succ])
        refine anyH_at #[true, true, true, false, false, false, false, false, false, false, false, false, false, false] (by kernel_rfl) ?_
        refine wpAnyH_take (i := 3) (oi := { dst := some 17, op := _, type := _, pos := _, after := _, guard := _ }) (v := ?vv3) rfl (by kernel_rfl) (by kernel_rfl) (by kernel_rfl) (fun _ _ _ h => h) (Or.inl ⟨by rfl, ?hy3⟩) (by assumption) ?rest3
        case hy3 => ((intro w hSw; (try dsimp only at hSw); go_simp) <;> with_reducible rfl)
        case rest3 =>
          (try simp only [Act.put, List.setIfInBounds_toArray, List.set_cons_zero, List.set_cons_succ])
          refine anyH_at #[true, true, true, true, false, false, false, false, false, false, false, false, false, false] (by kernel_rfl) ?_
          refine wpAnyH_take (i := 4) (oi := { dst := some 18, op := _, type := _, pos := _, after := _, guard := _ }) (v := ?vv4) rfl (by kernel_rfl) (by kernel_rfl) (by kernel_rfl) (fun _ _ _ h => h) (Or.inl ⟨by rfl, ?hy4⟩) (by assumption) ?rest4
          case hy4 => ((intro w hSw; (try dsimp only at hSw); go_simp) <;> with_reducible rfl)
          case rest4 =>
            (try simp only [Act.put, List.setIfInBounds_toArray, List.set_cons_zero, List.set_cons_succ])
            refine anyH_at #[true, true, true, true, true, false, false, false, false, false, false, false, false, false] (by kernel_rfl) ?_
            refine wpAnyH_take (i := 6) (oi := { dst := some 20, op := _, type := _, pos := _, after := _, guard := _ }) (v := ?vv6) rfl (by kernel_rfl) (by kernel_rfl) (by kernel_rfl) (fun _ _ _ h => h) (Or.inl ⟨by rfl, ?hy6⟩) (by assumption) ?rest6
            case hy6 => ((intro w hSw; (try dsimp only at hSw); go_simp) <;> with_reducible rfl)
            case rest6 =>
              (try simp only [Act.put, List.setIfInBounds_toArray, List.set_cons_zero, List.set_cons_succ])
              refine anyH_at #[true, true, true, true, true, false, true, false, false, false, false, false, false, false] (by kernel_rfl) ?_
              refine wpAnyH_take (i := 7) (oi := { dst := some 21, op := _, type := _, pos := _, after := _, guard := _ }) (v := ?vv7) rfl (by kernel_rfl) (by kernel_rfl) (by kernel_rfl) (fun _ _ _ h => h) (Or.inl ⟨by rfl, ?hy7⟩) (by assumption) ?rest7
              case hy7 => ((intro w hSw; (try dsimp only at hSw); go_simp) <;> with_reducible rfl)
              case rest7 =>
                (try simp only [Act.put, List.setIfInBounds_toArray, List.set_cons_zero, List.set_cons_succ])
                refine anyH_at #[true, true, true, true, true, false, true, true, false, false, false, false, false, false] (by kernel_rfl) ?_
                refine wpAnyH_take (i := 8) (oi := { dst := some 22, op := _, type := _, pos := _, after := _, guard := _ }) (v := ?vv8) rfl (by kernel_rfl) (by kernel_rfl) (by kernel_rfl) (fun _ _ _ h => h) (Or.inl ⟨by rfl, ?hy8⟩) (by assumption) ?rest8
                case hy8 => ((intro w hSw; (try dsimp only at hSw); go_simp) <;> with_reducible rfl)
                case rest8 =>
                  (try simp only [Act.put, List.setIfInBounds_toArray, List.set_cons_zero, List.set_cons_succ])
                  refine anyH_at #[true, true, true, true, true, false, true, true, true, false, false, false, false, false] (by kernel_rfl) ?_
                  refine wpAnyH_take (i := 9) (oi := { dst := some 23, op := _, type := _, pos := _, after := _, guard := _ }) (v := ?vv9) rfl (by kernel_rfl) (by kernel_rfl) (by kernel_rfl) (fun _ _ _ h => h) (Or.inl ⟨by rfl, ?hy9⟩) (by assumption) ?rest9
                  case hy9 => ((intro w hSw; (try dsimp only at hSw); go_simp) <;> with_reducible rfl)
                  case rest9 =>
                    (try simp only [Act.put, List.setIfInBounds_toArray, List.set_cons_zero, List.set_cons_succ])
                    refine anyH_at #[true, true, true, true, true, false, true, true, true, true, false, false, false, false] (by kernel_rfl) ?_
                    refine wpAnyH_take (i := 10) (oi := { dst := some 24, op := _, type := _, pos := _, after := _, guard := _ }) (v := ?vv10) rfl (by kernel_rfl) (by kernel_rfl) (by kernel_rfl) (fun _ _ _ h => h) (Or.inl ⟨by rfl, ?hy10⟩) (by assumption) ?rest10
                    case hy10 => ((intro w hSw; (try dsimp only at hSw); go_simp) <;> with_reducible rfl)
                    case rest10 =>
                      (try simp only [Act.put, List.setIfInBounds_toArray, List.set_cons_zero, List.set_cons_succ])
                      refine anyH_at #[true, true, true, true, true, false, true, true, true, true, true, false, false, false] (by kernel_rfl) ?_
                      refine wpAnyH_take (i := 11) (oi := { dst := some 25, op := _, type := _, pos := _, after := _, guard := _ }) (v := ?vv11) rfl (by kernel_rfl) (by kernel_rfl) (by kernel_rfl) (fun _ _ _ h => h) (Or.inl ⟨by rfl, ?hy11⟩) (by assumption) ?rest11
                      case hy11 => ((intro w hSw; (try dsimp only at hSw); go_simp) <;> with_reducible rfl)
                      case rest11 =>
                        (try simp only [Act.put, List.setIfInBounds_toArray, List.set_cons_zero, List.set_cons_succ])
                        refine anyH_at #[true, true, true, true, true, false, true, true, true, true, true, true, false, false] (by kernel_rfl) ?_
                        refine wpAnyH_ready (rs := [5]) (by kernel_rfl) (by simp) ?_
                        refine AllReadyH.cons (o := { dst := some 19, op := _, type := _, pos := _, after := _, guard := _ }) rfl (fun Kk hKk => ?_) AllReadyH.nil
                        go_simp
                        refine (refOf_any S _ (unhide HS).1 (unhide HS).2).mono ?_
                        rintro _ w3 ⟨s3, rfl, hN, hbl⟩
                        obtain ⟨a3, m3, c3, rfl⟩ := hN.slice
                        have HB := hide (bthen (unhide HB) hbl)
                        have HA := hide ((unhide HA).below hbl)
                        have H3 := hide hN
                        clear hbl hN
                        (try go_wp2_with fail)
                        refine hKk.out _ _ ?_ (fun hHeld => ?_)
                        · (try dsimp only)
                          exact unhide HA
                        clear hKk Kk
                        (try simp only [List.setIfInBounds_toArray, List.set_cons_zero, List.set_cons_succ])
                        refine anyH_at #[true, true, true, true, true, true, true, true, true, true, true, true, false, false] (by kernel_rfl) ?_
                        refine wpAnyH_ready (rs := [12]) (by kernel_rfl) (by simp) ?_
                        refine AllReadyH.cons (o := { dst := some 26, op := _, type := _, pos := _, after := _, guard := _ }) rfl (fun Kk hKk => ?_) AllReadyH.nil
                        go_simp
                        refine (unhide HE _ _ _ _ (unhide H3)).mono ?_
                        rintro _ w6 ⟨rfl, hbl⟩
                        have HB := hide (bthen (unhide HB) hbl)
                        have HA := hide ((unhide HA).below hbl)
                        clear hbl
                        (try go_wp2_with fail)
                        refine hKk.out _ _ ?_ (fun hHeld => ?_)
                        · (try dsimp only)
                          exact unhide HA
                        clear hKk Kk
                        (try simp only [List.setIfInBounds_toArray, List.set_cons_zero, List.set_cons_succ])
                        refine anyH_at #[true, true, true, true, true, true, true, true, true, true, true, true, true, false] (by kernel_rfl) ?_
                        refine wpAnyH_take (i := 13) (oi := { dst := some 6, op := _, type := _, pos := _, after := _, guard := _ }) (v := ?vv13) rfl (by kernel_rfl) (by kernel_rfl) (by kernel_rfl) (fun _ _ _ h => h) (Or.inl ⟨by rfl, ?hy13⟩) (by assumption) ?rest13
                        case hy13 => ((intro w hSw; (try dsimp only at hSw); go_simp) <;> with_reducible rfl)
                        case rest13 =>
                          (try simp only [Act.put, List.setIfInBounds_toArray, List.set_cons_zero, List.set_cons_succ])
                          refine anyH_at #[true, true, true, true, true, true, true, true, true, true, true, true, true, true] (by kernel_rfl) ?_
                          refine wpAnyH_done (by kernel_rfl) ?_ _
                          go_wp2
                          go_ret
                          exact ⟨rfl, unhide HB⟩
set_option maxRecDepth 100000 in
set_option maxHeartbeats 2000000 in
theorem one_l {w B V : Int} (W : World) (HB0 : Hid (∀ W, Calls Try.prog 20 #[.int .i64 w] W fun r W' => r = .returned (.int .i64 B) ∧ Below W.heap.size W W')) (HM : Hid (∀ W, Calls Try.prog 19 #[.int .i64 w, .bool false, .int .i64 B, .int .u64 0] W fun r W' => r = .returned (.int .u64 V) ∧ Below W.heap.size W W')) :
    Calls Try.prog 13 #[.int .i64 w] W fun r W' => r = .returned (.int .u64 V) ∧ Below W.heap.size W W' := by
  go_enter Try.func13, Try.ntmps13
  go_wp2_with fail
  refine (unhide HB0 _).mono ?_
  rintro _ w1 ⟨rfl, hb1⟩
  go_wp2_with fail
  refine (unhide HM _).mono ?_
  rintro _ w2 ⟨rfl, hb2⟩
  go_wp2_with fail
  go_ret
  exact ⟨rfl, bthen hb1 hb2⟩

end Go.Proofs.Ytlkmongiknpejaa
namespace Go.Proofs.Ytlkmongiknpejaa
open Go.RowKit
open Go.Proofs.Ytlkmongiknpejaa.W

theorem pack_wide {w e f P Q b E : Int} (k : Kd w e f P Q b) (n : Bool) (v : Nat) (hv : W2 v) (h0 : -4000 ≤ E) (h1 : E ≤ 4000) (W : World) :
    Calls Try.prog 44 #[.int .i64 w, .bool n, .agg #[.int .u64 (hi v), .int .u64 (lo v)], .int .i64 E, .bool false] W fun r W' => r = .returned (.int .u64 (rd f P Q b n (v * 2 ^ (E + 5000).toNat))) ∧ Below W.heap.size W W' := by
  have := pack_known v n false E k hv W
  rw [cap_id (by omega) (by omega), num_plain _ _ (by omega)] at this
  exact this
theorem exact_wide {w e f P Q b low : Int} (k : Kd w e f P Q b) (n : Bool) (z : Nat) (h0 : -4000 ≤ low) (h1 : low ≤ 4000) : exactN f P Q b n z low = rd f P Q b n (z * 2 ^ (low + 5000).toNat) := by
  unfold exactN
  by_cases hz : z = 0
  · rw [if_pos (Or.inl hz), hz, Nat.zero_mul, rd_zero k]
  · rw [if_neg (by omega), if_neg (by omega)]
    rfl
theorem either_any {k K1 X1 S1 K2 X2 S2 : Int} (n1 n2 : Bool) (W : World) :
    Calls Try.prog 42 #[.int .i64 k, .agg #[.bool n1, .int .i64 K1, .int .i64 X1, .int .u64 S1], .agg #[.bool n2, .int .i64 K2, .int .i64 X2, .int .u64 S2]] W fun r W' => r = .returned (.bool (K1 == k || K2 == k)) ∧ Below W.heap.size W W' := by
  by_cases h : K1 = k
  · rw [eq_t h, Bool.true_or]
    exact either_t W (eq_t h)
  · rw [eq_f h, Bool.false_or]
    exact either_f W (eq_f h)
theorem or_t {K1 K2 k : Int} (h : K1 = k ∨ K2 = k) : (K1 == k || K2 == k) = true := by simpa using h
theorem or_f {K1 K2 k : Int} (h : ¬ (K1 = k ∨ K2 = k)) : (K1 == k || K2 == k) = false := by
  rw [eq_f (fun h' => h (Or.inl h')), eq_f (fun h' => h (Or.inr h'))]
  rfl
theorem sig_mul {S1 S2 : Int} (s1 : S1 < 9007199254740992) (t1 : S2 < 9007199254740992) : S1.toNat * S2.toNat < 340282366920938463463374607431768211456 := by
  have h1 : S1.toNat * S2.toNat ≤ 9007199254740992 * S2.toNat := Nat.mul_le_mul_right _ (by omega)
  omega

theorem times_any {w e f P Q b K1 X1 S1 K2 X2 S2 : Int} (k : Kd w e f P Q b) (n1 n2 : Bool) (h1 : Prt f P Q b K1 X1 S1) (h2 : Prt f P Q b K2 X2 S2) (W : World) :
    Calls Try.prog 22 #[.int .i64 w, .agg #[.bool n1, .int .i64 K1, .int .i64 X1, .int .u64 S1], .agg #[.bool n2, .int .i64 K2, .int .i64 X2, .int .u64 S2]] W fun r W' => r = .returned (.int .u64 (mulP f P Q b n1 K1 (mag X1 S1) n2 K2 (mag X2 S2))) ∧ Below W.heap.size W W' := by
  obtain ⟨x0, x1, s0, -, s1⟩ := h1.in k
  obtain ⟨y0, y1, t0, -, t1⟩ := h2.in k
  have hK1 : K1 = 0 ∨ K1 = 1 ∨ K1 = 2 ∨ K1 = 3 := by unfold Prt at h1; omega
  have hK2 : K2 = 0 ∨ K2 = 1 ∨ K2 = 2 ∨ K2 = 3 := by unfold Prt at h2; omega
  have H3 := fun W => either_any (k := 3) (K1 := K1) (X1 := X1) (S1 := S1) (K2 := K2) (X2 := X2) (S2 := S2) n1 n2 W
  have H2 := fun W => either_any (k := 2) (K1 := K1) (X1 := X1) (S1 := S1) (K2 := K2) (X2 := X2) (S2 := S2) n1 n2 W
  have H0 := fun W => either_any (k := 0) (K1 := K1) (X1 := X1) (S1 := S1) (K2 := K2) (X2 := X2) (S2 := S2) n1 n2 W
  by_cases a3 : K1 = 3 ∨ K2 = 3
  · rw [show mulP f P Q b n1 K1 (mag X1 S1) n2 K2 (mag X2 S2) = nanB f P Q by unfold mulP; rw [if_pos (by omega)]]
    rw [or_t a3] at H3
    exact times_nan W (hide H3) (hide (fun W => nan_any k.wd W))
  rw [or_f a3] at H3
  by_cases a2 : K1 = 2 ∨ K2 = 2
  · rw [or_t a2] at H2
    by_cases a0 : K1 = 0 ∨ K2 = 0
    · rw [show mulP f P Q b n1 K1 (mag X1 S1) n2 K2 (mag X2 S2) = nanB f P Q by unfold mulP; rw [if_pos (by omega)]]
      rw [or_t a0] at H0
      exact times_in W (hide H3) (hide H2) (hide H0) (hide (fun W => nan_any k.wd W))
    · rw [show mulP f P Q b n1 K1 (mag X1 S1) n2 K2 (mag X2 S2) = put f P Q (n1 != n2) (Q - 1) 0 by unfold mulP; rw [if_neg (by omega), if_pos a2]]
      rw [or_f a0] at H0
      exact times_inf W (hide H3) (hide H2) (hide H0) (hide (fun W => inf_any _ k.wd W))
  · rw [or_f a2] at H2
    rw [show mulP f P Q b n1 K1 (mag X1 S1) n2 K2 (mag X2 S2) = rd f P Q b (n1 != n2) (mag X1 S1 * mag X2 S2 / 2 ^ Z5) by unfold mulP; rw [if_neg (by omega), if_neg a2]]
    by_cases a0 : K1 = 0 ∨ K2 = 0
    · rw [or_t a0] at H0
      have hz : mag X1 S1 * mag X2 S2 = 0 := by
        rcases a0 with h | h
        · rw [h1.mag0 (by omega), Nat.zero_mul]
        · rw [h2.mag0 (by omega), Nat.mul_zero]
      rw [hz, Nat.zero_div, rd_zero k]
      exact times_zero W (hide H3) (hide H2) (hide H0) (hide (fun W => zero_any _ k.wd W))
    · rw [or_f a0] at H0
      rw [mag_mul x0 y0]
      exact times_fin W (hide H3) (hide H2) (hide H0) (i64_id (by omega) (by omega)) (hide (fun W => mul_n S1 S2 W s0 (by omega) t0 (by omega))) (hide (fun W => pack_wide k _ _ (sig_mul s1 t1) (by omega) (by omega) W))

theorem mul_any' {w e f P Q b x y : Int} (k : Kd w e f P Q b) (W : World) (x0 : 0 ≤ x) (x1 : x < 18446744073709551616) (y0 : 0 ≤ y) (y1 : y < 18446744073709551616) :
    Calls Try.prog 8 #[.int .i64 w, .int .u64 x, .int .u64 y] W fun r W' => r = .returned (.int .u64 (mulB f P Q b x y)) ∧ Below W.heap.size W W' := by
  obtain ⟨X1, S1, o1, p1, m1⟩ := open_kd k x
  obtain ⟨X2, S2, o2, p2, m2⟩ := open_kd k y
  have HP := hide (fun W => times_any k (oN P Q x) (oN P Q y) p1 p2 W)
  unfold mulB
  rw [m1, m2] at HP
  exact mul_l W (hide (fun W => open_any x k.wd W x0 x1 o1)) (hide (fun W => open_any y k.wd W y0 y1 o2)) HP
theorem mul_no {w e f P Q b x y : Int} (k : Wd w e f P Q b) (hf : f = 0) (W : World) (x0 : 0 ≤ x) (x1 : x < 18446744073709551616) (y0 : 0 ≤ y) (y1 : y < 18446744073709551616) :
    Calls Try.prog 8 #[.int .i64 w, .int .u64 x, .int .u64 y] W fun r W' => r = .returned (.int .u64 0) ∧ Below W.heap.size W W' :=
  mul_l W (hide (fun W => open_none k hf x W x0 x1)) (hide (fun W => open_none k hf y W y0 y1))
    (hide (fun W => times_zero W (hide (fun W => either_f W (by rfl))) (hide (fun W => either_f W (by rfl))) (hide (fun W => either_t W (by rfl))) (hide (fun W => zero_no k hf _ W))))

/-- Exact of a product. -/
theorem ex_wide {w e f P Q b low : Int} (k : Kd w e f P Q b) (n : Bool) (z M : Nat) (hz : z < pw 140) (h0 : -4000 ≤ low) (h1 : low ≤ 4000) (hM : z * 2 ^ (low + 5000).toNat = M) :
    Hid (∀ (a : Option Addr) (m c : Nat) (W : World), IsNat W (.slice a m c) z → Calls Try.prog 27 #[.int .i64 w, .bool n, .agg #[.slice a m c], .int .i64 low] W fun r W' => r = .returned (.int .u64 (rd f P Q b n M)) ∧ Below W.heap.size W W') := by
  refine hide (fun a m c W hx => ?_)
  have := exact_any (n := n) (k := low) k z hz a m c W hx
  rw [exact_wide k n z h0 h1, hM] at this
  exact this
theorem w2_pw {v : Nat} (hv : W2 v) : v < pw 140 := by
  have h4 : v < pw 4 := by rw [pw_4]; exact hv
  exact lt_pw 140 h4 (by omega)
theorem refProd_any {w e f P Q b x y : Int} (k : Kd w e f P Q b) (W : World) (x0 : 0 ≤ x) (x1 : x < 18446744073709551616) (y0 : 0 ≤ y) (y1 : y < 18446744073709551616) :
    Calls Try.prog 10 #[.int .i64 w, .int .u64 x, .int .u64 y] W fun r W' => r = .returned (.int .u64 (mulB f P Q b x y)) ∧ Below W.heap.size W W' := by
  obtain ⟨X1, S1, o1, p1, m1⟩ := open_kd k x
  obtain ⟨X2, S2, o2, p2, m2⟩ := open_kd k y
  have HO1 := hide (fun W => refOpen_any x k W x0 x1 o1)
  have HO2 := hide (fun W => refOpen_any y k W y0 y1 o2)
  have HN := hide (fun W => refNan_any k W)
  unfold mulB
  rw [← m1, ← m2]
  generalize oN P Q x = n1 at *
  generalize oN P Q y = n2 at *
  generalize oK P Q x = K1 at *
  generalize oK P Q y = K2 at *
  obtain ⟨u0, u1, s0, -, s1⟩ := p1.in k
  obtain ⟨v0, v1, t0, -, t1⟩ := p2.in k
  have HI := hide (fun W => refInf_any (n1 != n2) k W)
  by_cases a3 : K1 = 3
  · rw [show mulP f P Q b n1 K1 (mag X1 S1) n2 K2 (mag X2 S2) = nanB f P Q by unfold mulP; rw [if_pos (by omega)]]
    exact refMul_n1 W HO1 HO2 (eq_t a3) HN
  by_cases b3 : K2 = 3
  · rw [show mulP f P Q b n1 K1 (mag X1 S1) n2 K2 (mag X2 S2) = nanB f P Q by unfold mulP; rw [if_pos (by omega)]]
    exact refMul_n2 W HO1 HO2 (eq_f a3) (eq_t b3) HN
  have HS : Hid (0 ≤ S1 ∧ S1 < 18446744073709551616 ∧ S1.toNat < pw 2 ∧ 0 ≤ S2 ∧ S2 < 18446744073709551616 ∧ S2.toNat < pw 2) := by
    rw [pw_2]
    exact ⟨s0, by omega, by omega, t0, by omega, by omega⟩
  have HE := ex_wide k (n1 != n2) (S1.toNat * S2.toNat) _ (w2_pw (sig_mul s1 t1)) (show -4000 ≤ X1 + X2 by omega) (by omega) rfl
  have kx : IntKind.i64.wrap (X1 + X2) = X1 + X2 := i64_id (by omega) (by omega)
  by_cases a2 : K1 = 2
  · by_cases b0 : K2 = 0
    · rw [show mulP f P Q b n1 K1 (mag X1 S1) n2 K2 (mag X2 S2) = nanB f P Q by unfold mulP; rw [if_pos (by omega)]]
      exact refMul_n3 W HO1 HO2 (eq_f a3) (eq_f b3) (eq_t a2) (eq_t b0) HN
    · rw [show mulP f P Q b n1 K1 (mag X1 S1) n2 K2 (mag X2 S2) = put f P Q (n1 != n2) (Q - 1) 0 by unfold mulP; rw [if_neg (by omega), if_pos (Or.inl a2)]]
      exact refMul_i1 W HO1 HO2 (eq_f a3) (eq_f b3) (eq_t a2) (eq_f b0) (eq_f (by omega)) HI
  by_cases a0 : K1 = 0
  · by_cases b2 : K2 = 2
    · rw [show mulP f P Q b n1 K1 (mag X1 S1) n2 K2 (mag X2 S2) = nanB f P Q by unfold mulP; rw [if_pos (by omega)]]
      exact refMul_n4 W HO1 HO2 (eq_f a3) (eq_f b3) (eq_f a2) (eq_t a0) (eq_t b2) HN
    · rw [show mulP f P Q b n1 K1 (mag X1 S1) n2 K2 (mag X2 S2) = rd f P Q b (n1 != n2) (mag X1 S1 * mag X2 S2 / 2 ^ Z5) by unfold mulP; rw [if_neg (by omega), if_neg (by omega)], mag_mul u0 v0]
      exact refMul_e0 W HO1 HO2 (eq_f a3) (eq_f b3) (eq_f a2) (eq_t a0) (eq_f b2) HS kx HE
  · by_cases b2 : K2 = 2
    · rw [show mulP f P Q b n1 K1 (mag X1 S1) n2 K2 (mag X2 S2) = put f P Q (n1 != n2) (Q - 1) 0 by unfold mulP; rw [if_neg (by omega), if_pos (Or.inr b2)]]
      exact refMul_i2 W HO1 HO2 (eq_f a3) (eq_f b3) (eq_f a2) (eq_f a0) (eq_t b2) HI
    · rw [show mulP f P Q b n1 K1 (mag X1 S1) n2 K2 (mag X2 S2) = rd f P Q b (n1 != n2) (mag X1 S1 * mag X2 S2 / 2 ^ Z5) by unfold mulP; rw [if_neg (by omega), if_neg (by omega)], mag_mul u0 v0]
      exact refMul_e1 W HO1 HO2 (eq_f a3) (eq_f b3) (eq_f a2) (eq_f a0) (eq_f b2) HS kx HE

/-- Far below the least float. -/
theorem rd_tiny {w e f P Q b E : Int} (k : Kd w e f P Q b) (n : Bool) (v : Nat) (hv : v < 9007199254740992) (hE : E ≤ -2800) : rd f P Q b n (v * 2 ^ (E + 5000).toNat) = put f P Q n 0 0 := by
  obtain ⟨hP, f0, f1, l0, l1, b0, b1⟩ := k.pow
  refine zero_code k n ?_
  by_cases h0 : v = 0
  · rw [h0, Nat.zero_mul, code_zero]
  · refine code_tiny ?_
    rw [bl_shl _ _ (by omega)]
    have h1 : ¬ 53 < Go.bitLen v := fun h => by
      have := bl_ge h
      omega
    unfold lowN
    omega
/-- Far above the greatest one. -/
theorem rd_huge {w e f P Q b E : Int} (k : Kd w e f P Q b) (n : Bool) (v : Nat) (hv : 0 < v) (hE : 2800 ≤ E) : rd f P Q b n (v * 2 ^ (E + 5000).toNat) = put f P Q n (Q - 1) 0 := by
  obtain ⟨hP, f0, f1, l0, l1, b0, b1⟩ := k.pow
  refine inf_code k n ?_
  rw [bl_shl _ _ (by omega)]
  unfold lowN
  omega
/-- A power of two, brought near. -/
def clamp (c N : Int) : Int := if N < -c then -c else if c < N then c else N
/-- A finite float times a power of two: the program's number is the reference's. -/
theorem scale_num {w e f P Q b X S : Int} (k : Kd w e f P Q b) (n : Bool) (N : Int) (h : Prt f P Q b 1 X S) :
    narrowN f P Q b n 1 (X + clamp 4096 N) S = exactN f P Q b n S.toNat (X + clamp 9000 N) := by
  obtain ⟨x0, x1, s0, -, s1⟩ := h.in k
  have hS : 0 < S := by unfold Prt at h; omega
  unfold narrowN
  rw [if_neg (by omega), if_pos rfl]
  have hc := cap_in (X + clamp 4096 N)
  rw [num_plain _ _ (by omega)]
  show rd f P Q b n (S.toNat * 2 ^ (cap (X + clamp 4096 N) + 5000).toNat) = _
  by_cases hlo : X + clamp 9000 N ≤ -2800
  · have h4 : cap (X + clamp 4096 N) ≤ -2800 := by
      unfold clamp at hlo ⊢
      unfold cap
      split at hlo <;> (try split at hlo) <;> split <;> (try split) <;> (try split) <;> (try split) <;> omega
    rw [rd_tiny k n _ (by omega) h4]
    unfold exactN
    by_cases h5 : X + clamp 9000 N < -4000
    · rw [if_pos (Or.inr h5)]
    · rw [if_neg (by omega), if_neg (by omega)]
      exact (rd_tiny k n _ (by omega) hlo).symm
  · by_cases hhi : 2800 ≤ X + clamp 9000 N
    · have h4 : 2800 ≤ cap (X + clamp 4096 N) := by
        unfold clamp at hhi ⊢
        unfold cap
        split at hhi <;> (try split at hhi) <;> split <;> (try split) <;> (try split) <;> (try split) <;> omega
      rw [rd_huge k n _ (by omega) h4]
      unfold exactN
      rw [if_neg (by omega)]
      by_cases h5 : 4000 < X + clamp 9000 N
      · rw [if_pos h5]
      · rw [if_neg h5]
        exact (rd_huge k n _ (by omega) hhi).symm
    · have h4 : cap (X + clamp 4096 N) = X + clamp 9000 N := by
        unfold clamp at hlo hhi ⊢
        unfold cap
        split at hlo <;> (try split at hlo) <;> split <;> (try split) <;> (try split) <;> (try split) <;> omega
      rw [h4, exact_wide k n _ (by omega) (by omega)]

theorem clamp_in (c N : Int) (h : 0 ≤ c) : -c ≤ clamp c N ∧ clamp c N ≤ c := by unfold clamp; split <;> (try split) <;> omega
theorem clamp_id {c N : Int} (h0 : -c ≤ N) (h1 : N ≤ c) : clamp c N = N := by unfold clamp; rw [if_neg (by omega), if_neg (by omega)]

/-- Program and reference have one answer of a float times a power of two. -/
theorem scale_both {w e f P Q b x : Int} (k : Kd w e f P Q b) (N : Int) (x0 : 0 ≤ x) (x1 : x < 18446744073709551616) :
    ∃ v, (∀ W, Calls Try.prog 12 #[.int .i64 w, .int .u64 x, .int .i64 N] W fun r W' => r = .returned (.int .u64 v) ∧ Below W.heap.size W W') ∧
      (∀ W, Calls Try.prog 14 #[.int .i64 w, .int .u64 x, .int .i64 N] W fun r W' => r = .returned (.int .u64 v) ∧ Below W.heap.size W W') ∧
      (0 ≤ N → N ≤ 1 → v = if oK P Q x = 3 then nanB f P Q else if oK P Q x = 2 then put f P Q (oN P Q x) (Q - 1) 0 else rd f P Q b (oN P Q x) (oM f P Q b x * 2 ^ N.toNat)) := by
  obtain ⟨X, S, o1, p1, m1⟩ := open_kd k x
  have HO := hide (fun W => open_any x k.wd W x0 x1 o1)
  have HR := hide (fun W => refOpen_any x k W x0 x1 o1)
  rw [← m1]
  generalize oN P Q x = n at *
  obtain ⟨u0, u1, s0, -, s1⟩ := p1.in k
  obtain ⟨p1', p2', q1, q2⟩ := k.pos
  by_cases hK : oK P Q x = 1
  · rw [hK] at HO HR p1
    refine ⟨exactN f P Q b n S.toNat (X + clamp 9000 N), fun W => ?_, fun W => ?_, fun n0 n1 => ?_⟩
    · rw [← scale_num k n N p1]
      have HC := fun E => hide (fun W => narrow_any k n 1 E S s0 (by omega) W)
      obtain ⟨c0, c1⟩ := clamp_in 4096 N (by omega)
      have kx : IntKind.i64.wrap (X + clamp 4096 N) = X + clamp 4096 N := i64_id (by omega) (by omega)
      by_cases hl : N < -4096
      · have hc : clamp 4096 N = -4096 := by unfold clamp; rw [if_pos hl]
        rw [hc] at kx ⊢
        exact scale_lo W hl kx HO (HC _)
      · by_cases hh : 4096 < N
        · have hc : clamp 4096 N = 4096 := by unfold clamp; rw [if_neg hl, if_pos hh]
          rw [hc] at kx ⊢
          exact scale_hi W hh kx HO (HC _)
        · rw [clamp_id (by omega) (by omega)] at kx ⊢
          exact scale_mid W hl hh kx HO (HC _)
    · have HS : Hid (0 ≤ S ∧ S < 18446744073709551616) := ⟨s0, by omega⟩
      have HE := fun E => hide (fun (a : Option Addr) (m c : Nat) (W : World) hx => exact_any (n := n) (k := E) k S.toNat (w2_pw (small_w2 s0 (by omega))) a m c W hx)
      obtain ⟨c0, c1⟩ := clamp_in 9000 N (by omega)
      have kx : IntKind.i64.wrap (X + clamp 9000 N) = X + clamp 9000 N := i64_id (by omega) (by omega)
      by_cases hl : N < -9000
      · have hc : clamp 9000 N = -9000 := by unfold clamp; rw [if_pos hl]
        rw [hc] at kx ⊢
        exact refScale_lo W hl kx HS (HE _) HR
      · by_cases hh : 9000 < N
        · have hc : clamp 9000 N = 9000 := by unfold clamp; rw [if_neg hl, if_pos hh]
          rw [hc] at kx ⊢
          exact refScale_hi W hh kx HS (HE _) HR
        · rw [clamp_id (by omega) (by omega)] at kx ⊢
          exact refScale_mid W hl hh kx HS (HE _) HR
    · rw [clamp_id (by omega) (by omega), exact_wide k n _ (by omega) (by omega), if_neg (by omega), if_neg (by omega)]
      congr 1
      unfold mag
      rw [Nat.mul_assoc, ← Nat.pow_add, show (X + 5000).toNat + N.toNat = (X + N + 5000).toNat by omega]
  · refine ⟨narrowN f P Q b n (oK P Q x) X S, fun W => scale_oth W (eq_f hK) HO (hide (fun W => narrow_any k n _ X S s0 (by omega) W)), fun W => refScale_oth W (eq_f hK) HR (hide (fun W => ?_)), fun _ _ => ?_⟩
    · unfold narrowN
      have hK' : oK P Q x = 0 ∨ oK P Q x = 2 ∨ oK P Q x = 3 := by unfold Prt at p1; omega
      rcases hK' with h | h | h
      · rw [if_pos h]
        exact refNarrow_zero W (eq_t h) (hide (fun W => make_any n 0 0 k W (by omega) (by omega) (by omega) (by omega)))
      · rw [if_neg (by omega), if_neg (by omega), if_pos h]
        exact refNarrow_inf W (eq_f (by omega)) (eq_f hK) (eq_t h) (hide (fun W => refInf_any n k W))
      · rw [if_neg (by omega), if_neg (by omega), if_neg (by omega), if_pos h]
        exact refNarrow_nan W (eq_f (by omega)) (eq_f hK) (eq_f (by omega)) (eq_t h) (hide (fun W => refNan_any k W))
    · have hK' : oK P Q x = 0 ∨ oK P Q x = 2 ∨ oK P Q x = 3 := by unfold Prt at p1; omega
      unfold narrowN nanB
      rcases hK' with h | h | h
      · rw [if_pos h, if_neg (by omega), if_neg (by omega), p1.mag0 hK, Nat.zero_mul, rd_zero k]
      · rw [if_neg (by omega), if_neg (by omega), if_pos h, if_neg (by omega), if_pos h]
      · rw [if_neg (by omega), if_neg (by omega), if_neg (by omega), if_pos h, if_pos h]
theorem scale_no {w e f P Q b x : Int} (k : Wd w e f P Q b) (hf : f = 0) (N : Int) (W : World) (x0 : 0 ≤ x) (x1 : x < 18446744073709551616) :
    Calls Try.prog 12 #[.int .i64 w, .int .u64 x, .int .i64 N] W fun r W' => r = .returned (.int .u64 0) ∧ Below W.heap.size W W' :=
  scale_oth W (by rfl) (hide (fun W => open_none k hf x W x0 x1)) (hide (fun W => narrow_no k hf false 0 0 0 (by omega) (by omega) W))

/-- One, of the program and of the reference. -/
theorem whole_one {w e f P Q b : Int} (k : Kd w e f P Q b) (W : World) :
    Calls Try.prog 30 #[.int .i64 w, .bool false, .int .u64 1] W fun r W' => r = .returned (.int .u64 (put f P Q false b 0)) ∧ Below W.heap.size W W' := by
  have h1 : rd f P Q b false ((1 : Int).toNat * 2 ^ ((0 : Int) + 5000).toNat) = put f P Q false b 0 := by
    obtain ⟨r0, r1, h1, h2, h3⟩ := pow_open (j := 0) k (by omega) (by omega)
    rw [Int.add_zero] at r0 r1 h1 h2 h3
    obtain ⟨g1, g2⟩ := oM_fin (x := put f P Q false b 0) k ⟨by omega, by omega⟩
    have hb : 0 ≤ b ∧ b < Q := by rcases k with ⟨-, -, -, -, rfl, rfl⟩ | ⟨-, -, -, -, rfl, rfl⟩ <;> omega
    obtain ⟨p1, p2, q1, q2⟩ := k.pos
    have hc : cutN f P Q (put f P Q false b 0) = put f P Q false b 0 := by
      obtain ⟨-, -, c2, c3, c4⟩ := put_in (n := false) (x := b) (y := 0) k hb.1 hb.2 (by omega) (by omega)
      rw [← cut_put k.wd.sz, c2, c3, c4]
    rw [show ((0 : Int) + 5000).toNat = Z5 + (0 : Int).toNat by unfold Z5; omega, show (1 : Int).toNat = 1 from rfl, Nat.one_mul, ← h3, g1, rd_val k _ g2]
    have := cut_fl k (x := put f P Q false b 0) (by omega)
    rw [hc, h2] at this
    exact this.symm
  have := fun W => pack_wide k false (1 : Int).toNat (E := 0) (small_w2 (by omega) (by omega)) (by omega) (by omega) W
  rw [h1] at this
  exact whole_f W (hide (fun W => of_n 1 W (by omega) (by omega))) (hide this)
theorem whole_none {w e f P Q b : Int} (k : Wd w e f P Q b) (hf : f = 0) (W : World) :
    Calls Try.prog 30 #[.int .i64 w, .bool false, .int .u64 1] W fun r W' => r = .returned (.int .u64 0) ∧ Below W.heap.size W W' :=
  whole_f W (hide (fun W => of_n 1 W (by omega) (by omega))) (hide (fun W => pack_no (1 : Int).toNat false false 0 k hf (small_w2 (by omega) (by omega)) W))
theorem refOne_any {w e f P Q b : Int} (k : Kd w e f P Q b) (W : World) :
    Calls Try.prog 13 #[.int .i64 w] W fun r W' => r = .returned (.int .u64 (put f P Q false b 0)) ∧ Below W.heap.size W W' := by
  obtain ⟨p1, p2, q1, q2⟩ := k.pos
  have hb : 0 ≤ b ∧ b < Q := by rcases k with ⟨-, -, -, -, rfl, rfl⟩ | ⟨-, -, -, -, rfl, rfl⟩ <;> omega
  exact one_l W (hide (fun W => refB_any k W)) (hide (fun W => make_any false b 0 k W hb.1 hb.2 (by omega) (by omega)))

end Go.Proofs.Ytlkmongiknpejaa
namespace Go.Proofs.Ytlkmongiknpejaa
open Go.RowKit
open Go.Proofs.Ytlkmongiknpejaa.W

/-- One by one, from a first one on. -/
def prods (A : Int → Int → Int) (o : Int) (zs : List Int) : Int := zs.foldl A o
theorem prods_step (A : Int → Int → Int) (o : Int) (zs : List Int) (k : Nat) (hk : k < zs.length) : prods A o (zs.take (k + 1)) = A (prods A o (zs.take k)) (zs.getD k 0) := by
  unfold prods
  rw [List.take_add_one, List.foldl_append]
  simp [List.getD, List.getElem?_eq_getElem hk]
theorem prods_wrd {A : Int → Int → Int} (hA : ∀ s z, Wrd s → Wrd z → Wrd (A s z)) {o : Int} (ho : Wrd o) {zs : List Int} (hz : ∀ z ∈ zs, Wrd z) (k : Nat) : Wrd (prods A o (zs.take k)) := by
  have : ∀ (l : List Int) (s : Int), Wrd s → (∀ z ∈ l, Wrd z) → Wrd (l.foldl A s) := by
    intro l
    induction l with
    | nil => exact fun s hs _ => hs
    | cons x xs ih => exact fun s hs h => ih _ (hA s x hs (h x (by simp))) (fun z hz => h z (by simp [hz]))
  exact this _ o ho (fun z hm => hz z (List.mem_of_mem_take hm))

set_option maxRecDepth 100000 in
set_option maxHeartbeats 2000000 in
theorem all_l {w o : Int} {A : Int → Int → Int} (a : Option Addr) (len cap : Nat) (zs : List Int) (W : World) (hr : Rd W a len zs) (hbig : len ≤ 1000) (hz : ∀ z ∈ zs, Wrd z) (ho : Wrd o) (hA : ∀ s z, Wrd s → Wrd z → Wrd (A s z))
    (HZ : Hid (∀ W, Calls Try.prog 30 #[.int .i64 w, .bool false, .int .u64 1] W fun r W' => r = .returned (.int .u64 o) ∧ Below W.heap.size W W'))
    (HA : Hid (∀ s z, Wrd s → Wrd z → ∀ W, Calls Try.prog 8 #[.int .i64 w, .int .u64 s, .int .u64 z] W fun r W' => r = .returned (.int .u64 (A s z)) ∧ Below W.heap.size W W')) :
    Calls Try.prog 11 #[.int .i64 w, .slice a len cap] W fun r W' => r = .returned (.int .u64 (prods A o zs)) ∧ Below W.heap.size W W' := by
  have HR := hide hr
  have HW := hide (fun k => prods_wrd hA ho hz k)
  have Hz := hide hz
  clear hr hA hz ho
  go_enter Try.func11, Try.ntmps11
  go_wp2_with fail
  refine (unhide HZ _).mono ?_
  rintro _ w1 ⟨rfl, hb1⟩
  go_wp2_with fail
  go_loopw [5, 12] (fun t i wr => ∃ k : Nat, k ≤ len ∧ i = .int .i64 k ∧ t = .int .u64 (prods A o (zs.take k)) ∧ Below W.heap.size W wr) (fun _ i _ => len - (intOf i).toNat)
  case atStart => exact ⟨0, by omega, rfl, rfl, hb1⟩
  case round =>
    obtain ⟨k, hk, rfl, rfl, hb⟩ := hrel
    by_cases hl : k < len
    · obtain ⟨b, off, rfl, hc⟩ := ((unhide HR).below hb).2 k hl
      have HS := hide (prods_step A o zs k (by have := (unhide HR).1; omega))
      have HX := unhide HA _ _ (unhide HW k) (unhide Hz (zs.getD k 0) (by
        have := (unhide HR).1
        rw [List.getD_eq_getElem?_getD, List.getElem?_eq_getElem (show k < zs.length by omega)]
        exact List.getElem_mem _))
      have HX := hide HX
      generalize prods A o (zs.take k) = s at *
      generalize zs.getD k 0 = z at *
      have hli : (k : Int) < (len : Int) := by omega
      go_wp2_with fail
      refine (unhide HX _).mono ?_
      rintro _ w2 ⟨rfl, hb2⟩
      go_wp2_with fail
      go_roundw
      case rel => exact ⟨k + 1, by omega, by go_num, by rw [unhide HS], bthen hb hb2⟩
      case measure => simp [intOf]; omega
    · have hli : ¬ (k : Int) < (len : Int) := by omega
      have HE : Hid (prods A o (zs.take k) = prods A o zs) := by
        have := (unhide HR).1
        unfold Hid
        rw [List.take_of_length_le (by omega)]
      go_wp2_with fail
      go_ret
      exact ⟨ret1 (unhide HE), hb⟩
theorem mul_wrd {w e f P Q b : Int} (k : Kd w e f P Q b) : ∀ s z, Wrd s → Wrd z → Wrd (mulB f P Q b s z) := fun s z _ _ => mul_bits k s z
theorem one_wrd {w e f P Q b : Int} (k : Kd w e f P Q b) : Wrd (put f P Q false b 0) := by
  obtain ⟨r0, r1, -⟩ := pow_open (j := 0) k (by omega) (by omega)
  rw [Int.add_zero] at r0 r1
  exact ⟨r0, r1⟩
theorem all_any {w e f P Q b : Int} (k : Kd w e f P Q b) (a : Option Addr) (len cap : Nat) (zs : List Int) (W : World) (hr : Rd W a len zs) (hbig : len ≤ 1000) (hz : ∀ z ∈ zs, Wrd z) :
    Calls Try.prog 11 #[.int .i64 w, .slice a len cap] W fun r W' => r = .returned (.int .u64 (prods (mulB f P Q b) (put f P Q false b 0) zs)) ∧ Below W.heap.size W W' :=
  all_l a len cap zs W hr hbig hz (one_wrd k) (mul_wrd k) (hide (fun W => whole_one k W)) (hide (fun _ _ hs hz W => mul_any' k W hs.1 hs.2 hz.1 hz.2))
theorem all_none {w e f P Q b : Int} (k : Kd w e f P Q b) (W : World) :
    Calls Try.prog 11 #[.int .i64 w, .slice none 0 0] W fun r W' => r = .returned (.int .u64 (put f P Q false b 0)) ∧ Below W.heap.size W W' :=
  all_any k none 0 0 [] W ⟨rfl, fun j hj => absurd hj (by omega)⟩ (by omega) (fun z hz => by simp at hz)

set_option maxRecDepth 100000 in
set_option maxHeartbeats 2000000 in
theorem awake_l (W : World) (HA : Hid (∀ W, Calls Try.prog 8 #[.int .i64 32, .int .u64 1077936128, .int .u64 1084227584] W fun r W' => r = .returned (.int .u64 1097859072) ∧ Below W.heap.size W W')) (HS : Hid (∀ W, Calls Try.prog 8 #[.int .i64 32, .int .u64 1, .int .u64 1056964608] W fun r W' => r = .returned (.int .u64 0) ∧ Below W.heap.size W W')) (HO : Hid (∀ W, Calls Try.prog 11 #[.int .i64 64, .slice none 0 0] W fun r W' => r = .returned (.int .u64 4607182418800017408) ∧ Below W.heap.size W W')) :
    Calls Try.prog 7 #[] W fun r W' => r = .returned (.bool true) ∧ Below W.heap.size W W' := by
  go_enter Try.func7, Try.ntmps7
  go_wp2_with fail
  refine (unhide HA _).mono ?_
  rintro _ w1 ⟨rfl, hb⟩
  have HB := hide hb
  clear hb
  go_wp2_with fail
  refine (unhide HS _).mono ?_
  rintro _ w2 ⟨rfl, hb⟩
  have HB := hide (bthen (unhide HB) hb)
  clear hb
  go_wp2_with fail
  refine (unhide HO _).mono ?_
  rintro _ w3 ⟨rfl, hb⟩
  have HB := hide (bthen (unhide HB) hb)
  clear hb
  go_wp2_with fail
  go_ret
  exact ⟨rfl, unhide HB⟩
theorem kd_32s : Kd 32 8 23 8388608 256 127 := Or.inl ⟨rfl, rfl, rfl, rfl, rfl, rfl⟩
theorem kd_64s : Kd 64 11 52 4503599627370496 2048 1023 := Or.inr ⟨rfl, rfl, rfl, rfl, rfl, rfl⟩
theorem prod_a : mulB 23 8388608 256 127 1077936128 1084227584 = 1097859072 := by decide +kernel
theorem prod_b : mulB 23 8388608 256 127 1 1056964608 = 0 := by decide +kernel
theorem prod_c : put 52 4503599627370496 2048 false 1023 0 = 4607182418800017408 := by decide +kernel
theorem awake_any (W : World) : Calls Try.prog 7 #[] W fun r W' => r = .returned (.bool true) ∧ Below W.heap.size W W' := by
  have h1 := fun W => mul_any' (x := 1077936128) (y := 1084227584) kd_32s W (by omega) (by omega) (by omega) (by omega)
  have h2 := fun W => mul_any' (x := 1) (y := 1056964608) kd_32s W (by omega) (by omega) (by omega) (by omega)
  have h3 := fun W => all_none kd_64s W
  rw [prod_a] at h1
  rw [prod_b] at h2
  rw [prod_c] at h3
  exact awake_l W (hide h1) (hide h2) (hide h3)

end Go.Proofs.Ytlkmongiknpejaa
namespace Go.Proofs.Ytlkmongiknpejaa
open Go.RowKit
open Go.Proofs.Ytlkmongiknpejaa.W

set_option maxRecDepth 100000 in
set_option maxHeartbeats 2000000 in
theorem scales_big {w N : Int} (a : Option Addr) (len cap : Nat) (W : World) (h : (100 : Int) < (len : Int)) (HW : Hid (∀ W, Calls Try.prog 7 #[] W fun r W' => r = .returned (.bool true) ∧ Below W.heap.size W W')) :
    Calls Try.prog 4 #[.int .i64 w, .int .i64 N, .slice a len cap] W fun r W' => r = .returned (.bool true) ∧ Below W.heap.size W W' := by
  go_enter Try.func4, Try.ntmps4
  go_wp2_with fail
  refine (unhide HW _).mono ?_
  rintro _ w1 ⟨rfl, hb⟩
  go_wp2_with fail
  go_ret
  exact ⟨rfl, hb⟩
set_option maxRecDepth 100000 in
set_option maxHeartbeats 2000000 in
theorem scales_no {w N : Int} (a : Option Addr) (len cap : Nat) (W : World) (h : ¬ (100 : Int) < (len : Int)) (HW : Hid (∀ W, Calls Try.prog 7 #[] W fun r W' => r = .returned (.bool true) ∧ Below W.heap.size W W'))
    (HT : Hid (∀ W', Below W.heap.size W W' → Calls Try.prog 11 #[.int .i64 w, .slice a len cap] W' fun r W'' => r = .returned (.int .u64 0) ∧ Below W'.heap.size W' W''))
    (HK : Hid (∀ W, Calls Try.prog 9 #[.int .i64 w] W fun r W' => r = .returned (.bool false) ∧ Below W.heap.size W W')) (HS : Hid (∀ W, Calls Try.prog 12 #[.int .i64 w, .int .u64 1, .int .i64 N] W fun r W' => r = .returned (.int .u64 0) ∧ Below W.heap.size W W')) :
    Calls Try.prog 4 #[.int .i64 w, .int .i64 N, .slice a len cap] W fun r W' => r = .returned (.bool true) ∧ Below W.heap.size W W' := by
  go_enter Try.func4, Try.ntmps4
  go_wp2_with fail
  refine (unhide HW _).mono ?_
  rintro _ w1 ⟨rfl, hb⟩
  go_wp2_with fail
  refine (unhide HT _ hb).mono ?_
  rintro _ w2 ⟨rfl, hb2⟩
  go_wp2_with fail
  refine (unhide HK _).mono ?_
  rintro _ w3 ⟨rfl, hb3⟩
  go_wp2_with fail
  refine (unhide HS _).mono ?_
  rintro _ w4 ⟨rfl, hb4⟩
  go_wp2_with fail
  go_ret
  exact ⟨rfl, bthen (bthen (bthen hb hb2) hb3) hb4⟩
set_option maxRecDepth 100000 in
set_option maxHeartbeats 2000000 in
theorem scales_l {w N o v : Int} {A : Int → Int → Int} (a : Option Addr) (len cap : Nat) (zs : List Int) (W : World) (hr : Rd W a len zs) (h : ¬ (100 : Int) < (len : Int)) (hz : ∀ z ∈ zs, Wrd z) (ho : Wrd o) (hA : ∀ s z, Wrd s → Wrd z → Wrd (A s z))
    (HW' : Hid (∀ W, Calls Try.prog 7 #[] W fun r W' => r = .returned (.bool true) ∧ Below W.heap.size W W'))
    (HT : Hid (∀ W', Below W.heap.size W W' → Calls Try.prog 11 #[.int .i64 w, .slice a len cap] W' fun r W'' => r = .returned (.int .u64 v) ∧ Below W'.heap.size W' W'')) (HV : Hid (prods A o zs = v))
    (HK : Hid (∀ W, Calls Try.prog 9 #[.int .i64 w] W fun r W' => r = .returned (.bool true) ∧ Below W.heap.size W W')) (HO : Hid (∀ W, Calls Try.prog 13 #[.int .i64 w] W fun r W' => r = .returned (.int .u64 o) ∧ Below W.heap.size W W'))
    (HA : Hid (∀ s z, Wrd s → Wrd z → ∀ W, Calls Try.prog 10 #[.int .i64 w, .int .u64 s, .int .u64 z] W fun r W' => r = .returned (.int .u64 (A s z)) ∧ Below W.heap.size W W'))
    (HS : Hid (∀ z, Wrd z → ∃ u, (∀ W, Calls Try.prog 12 #[.int .i64 w, .int .u64 z, .int .i64 N] W fun r W' => r = .returned (.int .u64 u) ∧ Below W.heap.size W W') ∧ (∀ W, Calls Try.prog 14 #[.int .i64 w, .int .u64 z, .int .i64 N] W fun r W' => r = .returned (.int .u64 u) ∧ Below W.heap.size W W'))) :
    Calls Try.prog 4 #[.int .i64 w, .int .i64 N, .slice a len cap] W fun r W' => r = .returned (.bool true) ∧ Below W.heap.size W W' := by
  have HR := hide hr
  have HW := hide (fun k => prods_wrd hA ho hz k)
  have Hz := hide hz
  clear hr hA hz ho
  go_enter Try.func4, Try.ntmps4
  go_wp2_with fail
  refine (unhide HW' _).mono ?_
  rintro _ w1 ⟨rfl, hb1⟩
  go_wp2_with fail
  refine (unhide HT _ hb1).mono ?_
  rintro _ w2 ⟨rfl, hb2⟩
  go_wp2_with fail
  refine (unhide HK _).mono ?_
  rintro _ w3 ⟨rfl, hb3⟩
  go_wp2_with fail
  refine (unhide HO _).mono ?_
  rintro _ w4 ⟨rfl, hb4⟩
  have hb3 := bthen (bthen (bthen hb1 hb2) hb3) hb4
  go_wp2_with fail
  go_loopw [8, 34] (fun t i wr => ∃ k : Nat, k ≤ len ∧ i = .int .i64 k ∧ t = .int .u64 (prods A o (zs.take k)) ∧ Below W.heap.size W wr) (fun _ i _ => len - (intOf i).toNat)
  case atStart => exact ⟨0, by omega, rfl, rfl, hb3⟩
  case round =>
    obtain ⟨k, hk, rfl, rfl, hb⟩ := hrel
    by_cases hl : k < len
    · obtain ⟨b, off, rfl, hc⟩ := ((unhide HR).below hb).2 k hl
      have HP := hide (prods_step A o zs k (by have := (unhide HR).1; omega))
      have hwz : Wrd (zs.getD k 0) := unhide Hz (zs.getD k 0) (by
        have := (unhide HR).1
        rw [List.getD_eq_getElem?_getD, List.getElem?_eq_getElem (show k < zs.length by omega)]
        exact List.getElem_mem _)
      have HX := hide (unhide HA _ _ (unhide HW k) hwz)
      obtain ⟨u, hu1, hu2⟩ := unhide HS _ hwz
      have HU1 := hide hu1
      have HU2 := hide hu2
      clear hu1 hu2 hwz
      generalize prods A o (zs.take k) = s at *
      generalize zs.getD k 0 = z at *
      have hli : (k : Int) < (len : Int) := by omega
      go_wp2_with fail
      refine (unhide HX _).mono ?_
      rintro _ w5 ⟨rfl, hb5⟩
      go_wp2_with fail
      refine (unhide HU1 _).mono ?_
      rintro _ w6 ⟨rfl, hb6⟩
      go_wp2_with fail
      refine (unhide HU2 _).mono ?_
      rintro _ w7 ⟨rfl, hb7⟩
      go_wp2_with fail
      go_roundw
      case rel => exact ⟨k + 1, by omega, by go_num, by rw [unhide HP], bthen (bthen (bthen hb hb5) hb6) hb7⟩
      case measure => simp [intOf]; omega
    · have hli : ¬ (k : Int) < (len : Int) := by omega
      have HE : prods A o (zs.take k) = v := by
        have := (unhide HR).1
        rw [List.take_of_length_le (by omega), unhide HV]
      rw [HE]
      go_wp2_with fail
      go_ret
      exact ⟨by first | rfl | simp, hb⟩

end Go.Proofs.Ytlkmongiknpejaa
