/- RefS, NearX, Exact, ExactX, RefT, Totals, SumD, SumE, SumF. -/
import Derived.Test.YticbhdgamblmbaaG27
import Derived.Test.YticbhdgamblmbaaG28
import Derived.Test.YticbhdgamblmbaaG29
import Derived.Test.YticbhdgamblmbaaG30
import Derived.Test.YticbhdgamblmbaaG32
import Derived.Test.YticbhdgamblmbaaG33
import Derived.Test.YticbhdgamblmbaaG34
import Derived.Test.YticbhdgamblmbaaG35
namespace Go.Proofs.Yticbhdgamblmbaa
open Go.RowKit

set_option maxRecDepth 100000 in
set_option maxHeartbeats 2000000 in
theorem refParts_n1 {w K1 X1 S1 K2 X2 S2 V : Int} {n1 n2 : Bool} (W : World) (a3 : (K1 == 3) = true) (HC : Hid (∀ W, Calls Try.prog 44 #[.int .i64 w] W fun r W' => r = .returned (.int .u64 V) ∧ Below W.heap.size W W')) :
    Calls Try.prog 24 #[.int .i64 w, .agg #[.bool n1, .int .i64 K1, .int .i64 X1, .int .u64 S1], .agg #[.bool n2, .int .i64 K2, .int .i64 X2, .int .u64 S2]] W fun r W' => r = .returned (.int .u64 V) ∧ Below W.heap.size W W' := by
  go_enter Try.func24, Try.ntmps24
  go_wp2_with fail
  have HB := hide (below2 W (.cells #[.bool n1, .int .i64 K1, .int .i64 X1, .int .u64 S1] 41) (.cells #[.bool n2, .int .i64 K2, .int .i64 X2, .int .u64 S2] 41))
  refine (unhide HC _).mono ?_
  rintro _ w1 ⟨rfl, hb⟩
  have HB := hide (bthen (unhide HB) hb)
  clear hb
  go_wp2_with fail
  go_ret
  exact ⟨rfl, unhide HB⟩
set_option maxRecDepth 100000 in
set_option maxHeartbeats 2000000 in
theorem refParts_n2 {w K1 X1 S1 K2 X2 S2 V : Int} {n1 n2 : Bool} (W : World) (a3 : (K1 == 3) = false) (b3 : (K2 == 3) = true) (HC : Hid (∀ W, Calls Try.prog 44 #[.int .i64 w] W fun r W' => r = .returned (.int .u64 V) ∧ Below W.heap.size W W')) :
    Calls Try.prog 24 #[.int .i64 w, .agg #[.bool n1, .int .i64 K1, .int .i64 X1, .int .u64 S1], .agg #[.bool n2, .int .i64 K2, .int .i64 X2, .int .u64 S2]] W fun r W' => r = .returned (.int .u64 V) ∧ Below W.heap.size W W' := by
  go_enter Try.func24, Try.ntmps24
  go_wp2_with fail
  have HB := hide (below2 W (.cells #[.bool n1, .int .i64 K1, .int .i64 X1, .int .u64 S1] 41) (.cells #[.bool n2, .int .i64 K2, .int .i64 X2, .int .u64 S2] 41))
  refine (unhide HC _).mono ?_
  rintro _ w1 ⟨rfl, hb⟩
  have HB := hide (bthen (unhide HB) hb)
  clear hb
  go_wp2_with fail
  go_ret
  exact ⟨rfl, unhide HB⟩
set_option maxRecDepth 100000 in
set_option maxHeartbeats 2000000 in
theorem refParts_n3 {w K1 X1 S1 K2 X2 S2 V : Int} {n1 n2 : Bool} (W : World) (a3 : (K1 == 3) = false) (b3 : (K2 == 3) = false) (a2 : (K1 == 2) = true) (b2 : (K2 == 2) = true) (hn : (n1 == n2) = false) (HC : Hid (∀ W, Calls Try.prog 44 #[.int .i64 w] W fun r W' => r = .returned (.int .u64 V) ∧ Below W.heap.size W W')) :
    Calls Try.prog 24 #[.int .i64 w, .agg #[.bool n1, .int .i64 K1, .int .i64 X1, .int .u64 S1], .agg #[.bool n2, .int .i64 K2, .int .i64 X2, .int .u64 S2]] W fun r W' => r = .returned (.int .u64 V) ∧ Below W.heap.size W W' := by
  go_enter Try.func24, Try.ntmps24
  go_wp2_with fail
  have HB := hide (below2 W (.cells #[.bool n1, .int .i64 K1, .int .i64 X1, .int .u64 S1] 41) (.cells #[.bool n2, .int .i64 K2, .int .i64 X2, .int .u64 S2] 41))
  refine (unhide HC _).mono ?_
  rintro _ w1 ⟨rfl, hb⟩
  have HB := hide (bthen (unhide HB) hb)
  clear hb
  go_wp2_with fail
  go_ret
  exact ⟨rfl, unhide HB⟩
set_option maxRecDepth 100000 in
set_option maxHeartbeats 2000000 in
theorem refParts_i3 {w K1 X1 S1 K2 X2 S2 V : Int} {n1 n2 : Bool} (W : World) (a3 : (K1 == 3) = false) (b3 : (K2 == 3) = false) (a2 : (K1 == 2) = true) (b2 : (K2 == 2) = true) (hn : (n1 == n2) = true) (HC : Hid (∀ W, Calls Try.prog 45 #[.int .i64 w, .bool n1] W fun r W' => r = .returned (.int .u64 V) ∧ Below W.heap.size W W')) :
    Calls Try.prog 24 #[.int .i64 w, .agg #[.bool n1, .int .i64 K1, .int .i64 X1, .int .u64 S1], .agg #[.bool n2, .int .i64 K2, .int .i64 X2, .int .u64 S2]] W fun r W' => r = .returned (.int .u64 V) ∧ Below W.heap.size W W' := by
  go_enter Try.func24, Try.ntmps24
  go_wp2_with fail
  have HB := hide (below2 W (.cells #[.bool n1, .int .i64 K1, .int .i64 X1, .int .u64 S1] 41) (.cells #[.bool n2, .int .i64 K2, .int .i64 X2, .int .u64 S2] 41))
  refine (unhide HC _).mono ?_
  rintro _ w1 ⟨rfl, hb⟩
  have HB := hide (bthen (unhide HB) hb)
  clear hb
  go_wp2_with fail
  go_ret
  exact ⟨rfl, unhide HB⟩
set_option maxRecDepth 100000 in
set_option maxHeartbeats 2000000 in
theorem refParts_i1 {w K1 X1 S1 K2 X2 S2 V : Int} {n1 n2 : Bool} (W : World) (a3 : (K1 == 3) = false) (b3 : (K2 == 3) = false) (a2 : (K1 == 2) = true) (b2 : (K2 == 2) = false) (HC : Hid (∀ W, Calls Try.prog 45 #[.int .i64 w, .bool n1] W fun r W' => r = .returned (.int .u64 V) ∧ Below W.heap.size W W')) :
    Calls Try.prog 24 #[.int .i64 w, .agg #[.bool n1, .int .i64 K1, .int .i64 X1, .int .u64 S1], .agg #[.bool n2, .int .i64 K2, .int .i64 X2, .int .u64 S2]] W fun r W' => r = .returned (.int .u64 V) ∧ Below W.heap.size W W' := by
  go_enter Try.func24, Try.ntmps24
  go_wp2_with fail
  have HB := hide (below2 W (.cells #[.bool n1, .int .i64 K1, .int .i64 X1, .int .u64 S1] 41) (.cells #[.bool n2, .int .i64 K2, .int .i64 X2, .int .u64 S2] 41))
  refine (unhide HC _).mono ?_
  rintro _ w1 ⟨rfl, hb⟩
  have HB := hide (bthen (unhide HB) hb)
  clear hb
  go_wp2_with fail
  go_ret
  exact ⟨rfl, unhide HB⟩
set_option maxRecDepth 100000 in
set_option maxHeartbeats 2000000 in
theorem refParts_i2 {w K1 X1 S1 K2 X2 S2 V : Int} {n1 n2 : Bool} (W : World) (a3 : (K1 == 3) = false) (b3 : (K2 == 3) = false) (a2 : (K1 == 2) = false) (b2 : (K2 == 2) = true) (HC : Hid (∀ W, Calls Try.prog 45 #[.int .i64 w, .bool n2] W fun r W' => r = .returned (.int .u64 V) ∧ Below W.heap.size W W')) :
    Calls Try.prog 24 #[.int .i64 w, .agg #[.bool n1, .int .i64 K1, .int .i64 X1, .int .u64 S1], .agg #[.bool n2, .int .i64 K2, .int .i64 X2, .int .u64 S2]] W fun r W' => r = .returned (.int .u64 V) ∧ Below W.heap.size W W' := by
  go_enter Try.func24, Try.ntmps24
  go_wp2_with fail
  have HB := hide (below2 W (.cells #[.bool n1, .int .i64 K1, .int .i64 X1, .int .u64 S1] 41) (.cells #[.bool n2, .int .i64 K2, .int .i64 X2, .int .u64 S2] 41))
  refine (unhide HC _).mono ?_
  rintro _ w1 ⟨rfl, hb⟩
  have HB := hide (bthen (unhide HB) hb)
  clear hb
  go_wp2_with fail
  go_ret
  exact ⟨rfl, unhide HB⟩
set_option maxRecDepth 100000 in
set_option maxHeartbeats 2000000 in
theorem refParts_ex {w K1 X1 S1 K2 X2 S2 V : Int} {n1 n2 : Bool} (W : World) (a3 : (K1 == 3) = false) (b3 : (K2 == 3) = false) (a2 : (K1 == 2) = false) (b2 : (K2 == 2) = false) (HC : Hid (∀ W, Calls Try.prog 46 #[.int .i64 w, .agg #[.bool n1, .int .i64 K1, .int .i64 X1, .int .u64 S1], .agg #[.bool n2, .int .i64 K2, .int .i64 X2, .int .u64 S2]] W fun r W' => r = .returned (.int .u64 V) ∧ Below W.heap.size W W')) :
    Calls Try.prog 24 #[.int .i64 w, .agg #[.bool n1, .int .i64 K1, .int .i64 X1, .int .u64 S1], .agg #[.bool n2, .int .i64 K2, .int .i64 X2, .int .u64 S2]] W fun r W' => r = .returned (.int .u64 V) ∧ Below W.heap.size W W' := by
  go_enter Try.func24, Try.ntmps24
  go_wp2_with fail
  have HB := hide (below2 W (.cells #[.bool n1, .int .i64 K1, .int .i64 X1, .int .u64 S1] 41) (.cells #[.bool n2, .int .i64 K2, .int .i64 X2, .int .u64 S2] 41))
  refine (unhide HC _).mono ?_
  rintro _ w1 ⟨rfl, hb⟩
  have HB := hide (bthen (unhide HB) hb)
  clear hb
  go_wp2_with fail
  go_ret
  exact ⟨rfl, unhide HB⟩
set_option maxRecDepth 100000 in
set_option maxHeartbeats 2000000 in
theorem refAdd_l {w x y K1 X1 S1 K2 X2 S2 V : Int} {n1 n2 : Bool} (W : World) (HO1 : Hid (∀ W, Calls Try.prog 21 #[.int .i64 w, .int .u64 x] W fun r W' => r = .returned (.agg #[.bool n1, .int .i64 K1, .int .i64 X1, .int .u64 S1]) ∧ Below W.heap.size W W')) (HO2 : Hid (∀ W, Calls Try.prog 21 #[.int .i64 w, .int .u64 y] W fun r W' => r = .returned (.agg #[.bool n2, .int .i64 K2, .int .i64 X2, .int .u64 S2]) ∧ Below W.heap.size W W')) (HP : Hid (∀ W, Calls Try.prog 24 #[.int .i64 w, .agg #[.bool n1, .int .i64 K1, .int .i64 X1, .int .u64 S1], .agg #[.bool n2, .int .i64 K2, .int .i64 X2, .int .u64 S2]] W fun r W' => r = .returned (.int .u64 V) ∧ Below W.heap.size W W')) :
    Calls Try.prog 12 #[.int .i64 w, .int .u64 x, .int .u64 y] W fun r W' => r = .returned (.int .u64 V) ∧ Below W.heap.size W W' := by
  go_enter Try.func12, Try.ntmps12
  go_wp2_with fail
  refine (unhide HO1 _).mono ?_
  rintro _ w1 ⟨rfl, hb1⟩
  go_wp2_with fail
  refine (unhide HO2 _).mono ?_
  rintro _ w2 ⟨rfl, hb2⟩
  go_wp2_with fail
  refine (unhide HP _).mono ?_
  rintro _ w3 ⟨rfl, hb3⟩
  go_wp2_with fail
  go_ret
  exact ⟨rfl, bthen (bthen hb1 hb2) hb3⟩
set_option maxRecDepth 100000 in
set_option maxHeartbeats 2000000 in
theorem refSub_l {w x y K1 X1 S1 K2 X2 S2 V : Int} {n1 n2 : Bool} (W : World) (HO1 : Hid (∀ W, Calls Try.prog 21 #[.int .i64 w, .int .u64 x] W fun r W' => r = .returned (.agg #[.bool n1, .int .i64 K1, .int .i64 X1, .int .u64 S1]) ∧ Below W.heap.size W W')) (HO2 : Hid (∀ W, Calls Try.prog 21 #[.int .i64 w, .int .u64 y] W fun r W' => r = .returned (.agg #[.bool n2, .int .i64 K2, .int .i64 X2, .int .u64 S2]) ∧ Below W.heap.size W W')) (HP : Hid (∀ W, Calls Try.prog 24 #[.int .i64 w, .agg #[.bool n1, .int .i64 K1, .int .i64 X1, .int .u64 S1], .agg #[.bool (!n2), .int .i64 K2, .int .i64 X2, .int .u64 S2]] W fun r W' => r = .returned (.int .u64 V) ∧ Below W.heap.size W W')) :
    Calls Try.prog 13 #[.int .i64 w, .int .u64 x, .int .u64 y] W fun r W' => r = .returned (.int .u64 V) ∧ Below W.heap.size W W' := by
  go_enter Try.func13, Try.ntmps13
  go_wp2_with fail
  refine (unhide HO2 _).mono ?_
  rintro _ w1 ⟨rfl, hb⟩
  go_wp2_with fail
  have HB := hide ((balloc hb (.cells #[.bool (!n2), .int .i64 K2, .int .i64 X2, .int .u64 S2] 41)).drew)
  clear hb
  have HA := hide ((at4_new w1 (.bool (!n2)) (.int .i64 K2) (.int .i64 X2) (.int .u64 S2) 41).below ((Below.refl _ _).drew))
  refine wp_region_held_drew (S := fun w' => w'.cell? ⟨w1.heap.size, 0, none⟩ = some (.bool (!n2)) ∧ w'.cell? ⟨w1.heap.size, 1, none⟩ = some (.int .i64 K2) ∧ w'.cell? ⟨w1.heap.size, 2, none⟩ = some (.int .i64 X2) ∧ w'.cell? ⟨w1.heap.size, 3, none⟩ = some (.int .u64 S2)) (by kernel_rfl) ?_ (fun hHeld => ?_)
  · (try dsimp only)
    exact unhide HA
  refine anyH_at #[false, false, false, false, false, false, false] (by kernel_rfl) ?_
  refine wpAnyH_take (i := 0) (oi := { dst := some 15, op := _, type := _, pos := _, after := _, guard := _ }) (v := ?vv0) rfl (by kernel_rfl) (by kernel_rfl) (by kernel_rfl) (fun _ _ _ h => h) (Or.inl ⟨by rfl, ?hy0⟩) (by assumption) ?rest0
  case hy0 => ((intro w hSw; (try dsimp only at hSw); go_simp) <;> with_reducible rfl)
  case rest0 =>
    (try simp only [Act.put, List.setIfInBounds_toArray, List.set_cons_zero, List.set_cons_succ])
    refine anyH_at #[true, false, false, false, false, false, false] (by kernel_rfl) ?_
    refine wpAnyH_take (i := 1) (oi := { dst := some 16, op := _, type := _, pos := _, after := _, guard := _ }) (v := ?vv1) rfl (by kernel_rfl) (by kernel_rfl) (by kernel_rfl) (fun _ _ _ h => h) (Or.inl ⟨by rfl, ?hy1⟩) (by assumption) ?rest1
    case hy1 => ((intro w hSw; (try dsimp only at hSw); go_simp) <;> with_reducible rfl)
    case rest1 =>
      (try simp only [Act.put, List.setIfInBounds_toArray, List.set_cons_zero, List.set_cons_succ])
      refine anyH_at #[true, true, false, false, false, false, false] (by kernel_rfl) ?_
      refine wpAnyH_take (i := 2) (oi := { dst := some 17, op := _, type := _, pos := _, after := _, guard := _ }) (v := ?vv2) rfl (by kernel_rfl) (by kernel_rfl) (by kernel_rfl) (fun _ _ _ h => h) (Or.inl ⟨by rfl, ?hy2⟩) (by assumption) ?rest2
      case hy2 => ((intro w hSw; (try dsimp only at hSw); go_simp) <;> with_reducible rfl)
      case rest2 =>
        (try simp only [Act.put, List.setIfInBounds_toArray, List.set_cons_zero, List.set_cons_succ])
        refine anyH_at #[true, true, true, false, false, false, false] (by kernel_rfl) ?_
        refine wpAnyH_take (i := 4) (oi := { dst := some 19, op := _, type := _, pos := _, after := _, guard := _ }) (v := ?vv4) rfl (by kernel_rfl) (by kernel_rfl) (by kernel_rfl) (fun _ _ _ h => h) (Or.inl ⟨by rfl, ?hy4⟩) (by assumption) ?rest4
        case hy4 => ((intro w hSw; (try dsimp only at hSw); go_simp) <;> with_reducible rfl)
        case rest4 =>
          (try simp only [Act.put, List.setIfInBounds_toArray, List.set_cons_zero, List.set_cons_succ])
          refine anyH_at #[true, true, true, false, true, false, false] (by kernel_rfl) ?_
          refine wpAnyH_ready (rs := [3]) (by kernel_rfl) (by simp) ?_
          refine AllReadyH.cons (o := { dst := some 18, op := _, type := _, pos := _, after := _, guard := _ }) rfl (fun Kk hKk => ?_) AllReadyH.nil
          go_simp
          refine (unhide HO1 _).mono ?_
          rintro _ w2 ⟨rfl, hbl⟩
          have HB := hide (bthen (unhide HB) hbl)
          have HA := hide ((unhide HA).below hbl)
          clear hbl
          (try go_wp2_with fail)
          refine hKk.out _ _ ?_ (fun hHeld => ?_)
          · (try dsimp only)
            exact unhide HA
          clear hKk Kk
          (try simp only [List.setIfInBounds_toArray, List.set_cons_zero, List.set_cons_succ])
          refine anyH_at #[true, true, true, true, true, false, false] (by kernel_rfl) ?_
          refine wpAnyH_ready (rs := [5]) (by kernel_rfl) (by simp) ?_
          refine AllReadyH.cons (o := { dst := some 20, op := _, type := _, pos := _, after := _, guard := _ }) rfl (fun Kk hKk => ?_) AllReadyH.nil
          go_simp
          refine (unhide HP _).mono ?_
          rintro _ w2 ⟨rfl, hbl⟩
          have HB := hide (bthen (unhide HB) hbl)
          have HA := hide ((unhide HA).below hbl)
          clear hbl
          (try go_wp2_with fail)
          refine hKk.out _ _ ?_ (fun hHeld => ?_)
          · (try dsimp only)
            exact unhide HA
          clear hKk Kk
          (try simp only [List.setIfInBounds_toArray, List.set_cons_zero, List.set_cons_succ])
          refine anyH_at #[true, true, true, true, true, true, false] (by kernel_rfl) ?_
          refine wpAnyH_take (i := 6) (oi := { dst := some 6, op := _, type := _, pos := _, after := _, guard := _ }) (v := ?vv6) rfl (by kernel_rfl) (by kernel_rfl) (by kernel_rfl) (fun _ _ _ h => h) (Or.inl ⟨by rfl, ?hy6⟩) (by assumption) ?rest6
          case hy6 => ((intro w hSw; (try dsimp only at hSw); go_simp) <;> with_reducible rfl)
          case rest6 =>
            (try simp only [Act.put, List.setIfInBounds_toArray, List.set_cons_zero, List.set_cons_succ])
            refine anyH_at #[true, true, true, true, true, true, true] (by kernel_rfl) ?_
            refine wpAnyH_done (by kernel_rfl) ?_ _
            go_wp2
            go_ret
            exact ⟨rfl, unhide HB⟩
set_option maxRecDepth 100000 in
set_option maxHeartbeats 2000000 in
theorem refCmp_n1 {w x y K1 X1 S1 K2 X2 S2 : Int} {n1 n2 : Bool} (W : World) (HO1 : Hid (∀ W, Calls Try.prog 21 #[.int .i64 w, .int .u64 x] W fun r W' => r = .returned (.agg #[.bool n1, .int .i64 K1, .int .i64 X1, .int .u64 S1]) ∧ Below W.heap.size W W')) (HO2 : Hid (∀ W, Calls Try.prog 21 #[.int .i64 w, .int .u64 y] W fun r W' => r = .returned (.agg #[.bool n2, .int .i64 K2, .int .i64 X2, .int .u64 S2]) ∧ Below W.heap.size W W')) (a3 : (K1 == 3) = true)  :
    Calls Try.prog 20 #[.int .i64 w, .int .u64 x, .int .u64 y] W fun r W' => r = .returned (.int .i64 2) ∧ Below W.heap.size W W' := by
  go_enter Try.func20, Try.ntmps20
  go_wp2_with fail
  refine (unhide HO1 _).mono ?_
  rintro _ w1 ⟨rfl, hb⟩
  have HB := hide (balloc hb (.cells #[.bool n1, .int .i64 K1, .int .i64 X1, .int .u64 S1] 41))
  have HA := hide (at4_new w1 (.bool n1) (.int .i64 K1) (.int .i64 X1) (.int .u64 S1) 41)
  clear hb
  go_wp2_with fail
  refine (unhide HO2 _).mono ?_
  rintro _ w2 ⟨rfl, hb⟩
  have HB := hide (balloc (bthen (unhide HB) hb) (.cells #[.bool n2, .int .i64 K2, .int .i64 X2, .int .u64 S2] 41))
  have HA := hide (((unhide HA).below hb).below (below1 _ (.cells #[.bool n2, .int .i64 K2, .int .i64 X2, .int .u64 S2] 41)))
  have HA2 := hide (at4_new w2 (.bool n2) (.int .i64 K2) (.int .i64 X2) (.int .u64 S2) 41)
  clear hb
  obtain ⟨c0, c1, -, -⟩ := unhide HA
  obtain ⟨d0, d1, -, -⟩ := unhide HA2
  go_wp2_with fail
  go_ret
  exact ⟨rfl, unhide HB⟩
set_option maxRecDepth 100000 in
set_option maxHeartbeats 2000000 in
theorem refCmp_n2 {w x y K1 X1 S1 K2 X2 S2 : Int} {n1 n2 : Bool} (W : World) (HO1 : Hid (∀ W, Calls Try.prog 21 #[.int .i64 w, .int .u64 x] W fun r W' => r = .returned (.agg #[.bool n1, .int .i64 K1, .int .i64 X1, .int .u64 S1]) ∧ Below W.heap.size W W')) (HO2 : Hid (∀ W, Calls Try.prog 21 #[.int .i64 w, .int .u64 y] W fun r W' => r = .returned (.agg #[.bool n2, .int .i64 K2, .int .i64 X2, .int .u64 S2]) ∧ Below W.heap.size W W')) (a3 : (K1 == 3) = false) (b3 : (K2 == 3) = true)  :
    Calls Try.prog 20 #[.int .i64 w, .int .u64 x, .int .u64 y] W fun r W' => r = .returned (.int .i64 2) ∧ Below W.heap.size W W' := by
  go_enter Try.func20, Try.ntmps20
  go_wp2_with fail
  refine (unhide HO1 _).mono ?_
  rintro _ w1 ⟨rfl, hb⟩
  have HB := hide (balloc hb (.cells #[.bool n1, .int .i64 K1, .int .i64 X1, .int .u64 S1] 41))
  have HA := hide (at4_new w1 (.bool n1) (.int .i64 K1) (.int .i64 X1) (.int .u64 S1) 41)
  clear hb
  go_wp2_with fail
  refine (unhide HO2 _).mono ?_
  rintro _ w2 ⟨rfl, hb⟩
  have HB := hide (balloc (bthen (unhide HB) hb) (.cells #[.bool n2, .int .i64 K2, .int .i64 X2, .int .u64 S2] 41))
  have HA := hide (((unhide HA).below hb).below (below1 _ (.cells #[.bool n2, .int .i64 K2, .int .i64 X2, .int .u64 S2] 41)))
  have HA2 := hide (at4_new w2 (.bool n2) (.int .i64 K2) (.int .i64 X2) (.int .u64 S2) 41)
  clear hb
  obtain ⟨c0, c1, -, -⟩ := unhide HA
  obtain ⟨d0, d1, -, -⟩ := unhide HA2
  go_wp2_with fail
  go_ret
  exact ⟨rfl, unhide HB⟩
set_option maxRecDepth 100000 in
set_option maxHeartbeats 2000000 in
theorem refCmp_ii {w x y K1 X1 S1 K2 X2 S2 : Int} {n1 n2 : Bool} (W : World) (HO1 : Hid (∀ W, Calls Try.prog 21 #[.int .i64 w, .int .u64 x] W fun r W' => r = .returned (.agg #[.bool n1, .int .i64 K1, .int .i64 X1, .int .u64 S1]) ∧ Below W.heap.size W W')) (HO2 : Hid (∀ W, Calls Try.prog 21 #[.int .i64 w, .int .u64 y] W fun r W' => r = .returned (.agg #[.bool n2, .int .i64 K2, .int .i64 X2, .int .u64 S2]) ∧ Below W.heap.size W W')) (a3 : (K1 == 3) = false) (b3 : (K2 == 3) = false) (a2 : (K1 == 2) = true) (b2 : (K2 == 2) = true) (hn : (n1 == n2) = true)  :
    Calls Try.prog 20 #[.int .i64 w, .int .u64 x, .int .u64 y] W fun r W' => r = .returned (.int .i64 0) ∧ Below W.heap.size W W' := by
  go_enter Try.func20, Try.ntmps20
  go_wp2_with fail
  refine (unhide HO1 _).mono ?_
  rintro _ w1 ⟨rfl, hb⟩
  have HB := hide (balloc hb (.cells #[.bool n1, .int .i64 K1, .int .i64 X1, .int .u64 S1] 41))
  have HA := hide (at4_new w1 (.bool n1) (.int .i64 K1) (.int .i64 X1) (.int .u64 S1) 41)
  clear hb
  go_wp2_with fail
  refine (unhide HO2 _).mono ?_
  rintro _ w2 ⟨rfl, hb⟩
  have HB := hide (balloc (bthen (unhide HB) hb) (.cells #[.bool n2, .int .i64 K2, .int .i64 X2, .int .u64 S2] 41))
  have HA := hide (((unhide HA).below hb).below (below1 _ (.cells #[.bool n2, .int .i64 K2, .int .i64 X2, .int .u64 S2] 41)))
  have HA2 := hide (at4_new w2 (.bool n2) (.int .i64 K2) (.int .i64 X2) (.int .u64 S2) 41)
  clear hb
  obtain ⟨c0, c1, -, -⟩ := unhide HA
  obtain ⟨d0, d1, -, -⟩ := unhide HA2
  go_wp2_with fail
  go_ret
  exact ⟨rfl, unhide HB⟩
set_option maxRecDepth 100000 in
set_option maxHeartbeats 2000000 in
theorem refCmp_a0 {w x y K1 X1 S1 K2 X2 S2 V K3 X3 S3 : Int} {n1 n2 n3 : Bool} (W : World) (HO1 : Hid (∀ W, Calls Try.prog 21 #[.int .i64 w, .int .u64 x] W fun r W' => r = .returned (.agg #[.bool n1, .int .i64 K1, .int .i64 X1, .int .u64 S1]) ∧ Below W.heap.size W W')) (HO2 : Hid (∀ W, Calls Try.prog 21 #[.int .i64 w, .int .u64 y] W fun r W' => r = .returned (.agg #[.bool n2, .int .i64 K2, .int .i64 X2, .int .u64 S2]) ∧ Below W.heap.size W W')) (a3 : (K1 == 3) = false) (b3 : (K2 == 3) = false) (a2 : (K1 == 2) = false) (k3 : (K3 == 0) = true) (HS : Hid (∀ W, Calls Try.prog 13 #[.int .i64 w, .int .u64 x, .int .u64 y] W fun r W' => r = .returned (.int .u64 V) ∧ Below W.heap.size W W')) (HO3 : Hid (∀ W, Calls Try.prog 21 #[.int .i64 w, .int .u64 V] W fun r W' => r = .returned (.agg #[.bool n3, .int .i64 K3, .int .i64 X3, .int .u64 S3]) ∧ Below W.heap.size W W')) :
    Calls Try.prog 20 #[.int .i64 w, .int .u64 x, .int .u64 y] W fun r W' => r = .returned (.int .i64 0) ∧ Below W.heap.size W W' := by
  go_enter Try.func20, Try.ntmps20
  go_wp2_with fail
  refine (unhide HO1 _).mono ?_
  rintro _ w1 ⟨rfl, hb⟩
  have HB := hide (balloc hb (.cells #[.bool n1, .int .i64 K1, .int .i64 X1, .int .u64 S1] 41))
  have HA := hide (at4_new w1 (.bool n1) (.int .i64 K1) (.int .i64 X1) (.int .u64 S1) 41)
  clear hb
  go_wp2_with fail
  refine (unhide HO2 _).mono ?_
  rintro _ w2 ⟨rfl, hb⟩
  have HB := hide (balloc (bthen (unhide HB) hb) (.cells #[.bool n2, .int .i64 K2, .int .i64 X2, .int .u64 S2] 41))
  have HA := hide (((unhide HA).below hb).below (below1 _ (.cells #[.bool n2, .int .i64 K2, .int .i64 X2, .int .u64 S2] 41)))
  have HA2 := hide (at4_new w2 (.bool n2) (.int .i64 K2) (.int .i64 X2) (.int .u64 S2) 41)
  clear hb
  obtain ⟨c0, c1, -, -⟩ := unhide HA
  obtain ⟨d0, d1, -, -⟩ := unhide HA2
  go_wp2_with fail
  refine (unhide HS _).mono ?_
  rintro _ w3 ⟨rfl, hb⟩
  have HB := hide (bthen (unhide HB) hb)
  clear hb
  go_wp2_with fail
  refine (unhide HO3 _).mono ?_
  rintro _ w4 ⟨rfl, hb⟩
  have HB := hide (balloc (bthen (unhide HB) hb) (.cells #[.bool n3, .int .i64 K3, .int .i64 X3, .int .u64 S3] 41))
  clear hb
  go_wp2_with fail
  go_ret
  exact ⟨rfl, unhide HB⟩
set_option maxRecDepth 100000 in
set_option maxHeartbeats 2000000 in
theorem refCmp_al {w x y K1 X1 S1 K2 X2 S2 V K3 X3 S3 : Int} {n1 n2 : Bool} (W : World) (HO1 : Hid (∀ W, Calls Try.prog 21 #[.int .i64 w, .int .u64 x] W fun r W' => r = .returned (.agg #[.bool n1, .int .i64 K1, .int .i64 X1, .int .u64 S1]) ∧ Below W.heap.size W W')) (HO2 : Hid (∀ W, Calls Try.prog 21 #[.int .i64 w, .int .u64 y] W fun r W' => r = .returned (.agg #[.bool n2, .int .i64 K2, .int .i64 X2, .int .u64 S2]) ∧ Below W.heap.size W W')) (a3 : (K1 == 3) = false) (b3 : (K2 == 3) = false) (a2 : (K1 == 2) = false) (k3 : (K3 == 0) = false) (HS : Hid (∀ W, Calls Try.prog 13 #[.int .i64 w, .int .u64 x, .int .u64 y] W fun r W' => r = .returned (.int .u64 V) ∧ Below W.heap.size W W')) (HO3 : Hid (∀ W, Calls Try.prog 21 #[.int .i64 w, .int .u64 V] W fun r W' => r = .returned (.agg #[.bool true, .int .i64 K3, .int .i64 X3, .int .u64 S3]) ∧ Below W.heap.size W W')) :
    Calls Try.prog 20 #[.int .i64 w, .int .u64 x, .int .u64 y] W fun r W' => r = .returned (.int .i64 (-1)) ∧ Below W.heap.size W W' := by
  go_enter Try.func20, Try.ntmps20
  go_wp2_with fail
  refine (unhide HO1 _).mono ?_
  rintro _ w1 ⟨rfl, hb⟩
  have HB := hide (balloc hb (.cells #[.bool n1, .int .i64 K1, .int .i64 X1, .int .u64 S1] 41))
  have HA := hide (at4_new w1 (.bool n1) (.int .i64 K1) (.int .i64 X1) (.int .u64 S1) 41)
  clear hb
  go_wp2_with fail
  refine (unhide HO2 _).mono ?_
  rintro _ w2 ⟨rfl, hb⟩
  have HB := hide (balloc (bthen (unhide HB) hb) (.cells #[.bool n2, .int .i64 K2, .int .i64 X2, .int .u64 S2] 41))
  have HA := hide (((unhide HA).below hb).below (below1 _ (.cells #[.bool n2, .int .i64 K2, .int .i64 X2, .int .u64 S2] 41)))
  have HA2 := hide (at4_new w2 (.bool n2) (.int .i64 K2) (.int .i64 X2) (.int .u64 S2) 41)
  clear hb
  obtain ⟨c0, c1, -, -⟩ := unhide HA
  obtain ⟨d0, d1, -, -⟩ := unhide HA2
  go_wp2_with fail
  refine (unhide HS _).mono ?_
  rintro _ w3 ⟨rfl, hb⟩
  have HB := hide (bthen (unhide HB) hb)
  clear hb
  go_wp2_with fail
  refine (unhide HO3 _).mono ?_
  rintro _ w4 ⟨rfl, hb⟩
  have HB := hide (balloc (bthen (unhide HB) hb) (.cells #[.bool true, .int .i64 K3, .int .i64 X3, .int .u64 S3] 41))
  clear hb
  go_wp2_with fail
  go_ret
  exact ⟨rfl, unhide HB⟩
set_option maxRecDepth 100000 in
set_option maxHeartbeats 2000000 in
theorem refCmp_ag {w x y K1 X1 S1 K2 X2 S2 V K3 X3 S3 : Int} {n1 n2 : Bool} (W : World) (HO1 : Hid (∀ W, Calls Try.prog 21 #[.int .i64 w, .int .u64 x] W fun r W' => r = .returned (.agg #[.bool n1, .int .i64 K1, .int .i64 X1, .int .u64 S1]) ∧ Below W.heap.size W W')) (HO2 : Hid (∀ W, Calls Try.prog 21 #[.int .i64 w, .int .u64 y] W fun r W' => r = .returned (.agg #[.bool n2, .int .i64 K2, .int .i64 X2, .int .u64 S2]) ∧ Below W.heap.size W W')) (a3 : (K1 == 3) = false) (b3 : (K2 == 3) = false) (a2 : (K1 == 2) = false) (k3 : (K3 == 0) = false) (HS : Hid (∀ W, Calls Try.prog 13 #[.int .i64 w, .int .u64 x, .int .u64 y] W fun r W' => r = .returned (.int .u64 V) ∧ Below W.heap.size W W')) (HO3 : Hid (∀ W, Calls Try.prog 21 #[.int .i64 w, .int .u64 V] W fun r W' => r = .returned (.agg #[.bool false, .int .i64 K3, .int .i64 X3, .int .u64 S3]) ∧ Below W.heap.size W W')) :
    Calls Try.prog 20 #[.int .i64 w, .int .u64 x, .int .u64 y] W fun r W' => r = .returned (.int .i64 1) ∧ Below W.heap.size W W' := by
  go_enter Try.func20, Try.ntmps20
  go_wp2_with fail
  refine (unhide HO1 _).mono ?_
  rintro _ w1 ⟨rfl, hb⟩
  have HB := hide (balloc hb (.cells #[.bool n1, .int .i64 K1, .int .i64 X1, .int .u64 S1] 41))
  have HA := hide (at4_new w1 (.bool n1) (.int .i64 K1) (.int .i64 X1) (.int .u64 S1) 41)
  clear hb
  go_wp2_with fail
  refine (unhide HO2 _).mono ?_
  rintro _ w2 ⟨rfl, hb⟩
  have HB := hide (balloc (bthen (unhide HB) hb) (.cells #[.bool n2, .int .i64 K2, .int .i64 X2, .int .u64 S2] 41))
  have HA := hide (((unhide HA).below hb).below (below1 _ (.cells #[.bool n2, .int .i64 K2, .int .i64 X2, .int .u64 S2] 41)))
  have HA2 := hide (at4_new w2 (.bool n2) (.int .i64 K2) (.int .i64 X2) (.int .u64 S2) 41)
  clear hb
  obtain ⟨c0, c1, -, -⟩ := unhide HA
  obtain ⟨d0, d1, -, -⟩ := unhide HA2
  go_wp2_with fail
  refine (unhide HS _).mono ?_
  rintro _ w3 ⟨rfl, hb⟩
  have HB := hide (bthen (unhide HB) hb)
  clear hb
  go_wp2_with fail
  refine (unhide HO3 _).mono ?_
  rintro _ w4 ⟨rfl, hb⟩
  have HB := hide (balloc (bthen (unhide HB) hb) (.cells #[.bool false, .int .i64 K3, .int .i64 X3, .int .u64 S3] 41))
  clear hb
  go_wp2_with fail
  go_ret
  exact ⟨rfl, unhide HB⟩
set_option maxRecDepth 100000 in
set_option maxHeartbeats 2000000 in
theorem refCmp_b0 {w x y K1 X1 S1 K2 X2 S2 V K3 X3 S3 : Int} {n1 n2 n3 : Bool} (W : World) (HO1 : Hid (∀ W, Calls Try.prog 21 #[.int .i64 w, .int .u64 x] W fun r W' => r = .returned (.agg #[.bool n1, .int .i64 K1, .int .i64 X1, .int .u64 S1]) ∧ Below W.heap.size W W')) (HO2 : Hid (∀ W, Calls Try.prog 21 #[.int .i64 w, .int .u64 y] W fun r W' => r = .returned (.agg #[.bool n2, .int .i64 K2, .int .i64 X2, .int .u64 S2]) ∧ Below W.heap.size W W')) (a3 : (K1 == 3) = false) (b3 : (K2 == 3) = false) (a2 : (K1 == 2) = true) (b2 : (K2 == 2) = false) (k3 : (K3 == 0) = true) (HS : Hid (∀ W, Calls Try.prog 13 #[.int .i64 w, .int .u64 x, .int .u64 y] W fun r W' => r = .returned (.int .u64 V) ∧ Below W.heap.size W W')) (HO3 : Hid (∀ W, Calls Try.prog 21 #[.int .i64 w, .int .u64 V] W fun r W' => r = .returned (.agg #[.bool n3, .int .i64 K3, .int .i64 X3, .int .u64 S3]) ∧ Below W.heap.size W W')) :
    Calls Try.prog 20 #[.int .i64 w, .int .u64 x, .int .u64 y] W fun r W' => r = .returned (.int .i64 0) ∧ Below W.heap.size W W' := by
  go_enter Try.func20, Try.ntmps20
  go_wp2_with fail
  refine (unhide HO1 _).mono ?_
  rintro _ w1 ⟨rfl, hb⟩
  have HB := hide (balloc hb (.cells #[.bool n1, .int .i64 K1, .int .i64 X1, .int .u64 S1] 41))
  have HA := hide (at4_new w1 (.bool n1) (.int .i64 K1) (.int .i64 X1) (.int .u64 S1) 41)
  clear hb
  go_wp2_with fail
  refine (unhide HO2 _).mono ?_
  rintro _ w2 ⟨rfl, hb⟩
  have HB := hide (balloc (bthen (unhide HB) hb) (.cells #[.bool n2, .int .i64 K2, .int .i64 X2, .int .u64 S2] 41))
  have HA := hide (((unhide HA).below hb).below (below1 _ (.cells #[.bool n2, .int .i64 K2, .int .i64 X2, .int .u64 S2] 41)))
  have HA2 := hide (at4_new w2 (.bool n2) (.int .i64 K2) (.int .i64 X2) (.int .u64 S2) 41)
  clear hb
  obtain ⟨c0, c1, -, -⟩ := unhide HA
  obtain ⟨d0, d1, -, -⟩ := unhide HA2
  go_wp2_with fail
  refine (unhide HS _).mono ?_
  rintro _ w3 ⟨rfl, hb⟩
  have HB := hide (bthen (unhide HB) hb)
  clear hb
  go_wp2_with fail
  refine (unhide HO3 _).mono ?_
  rintro _ w4 ⟨rfl, hb⟩
  have HB := hide (balloc (bthen (unhide HB) hb) (.cells #[.bool n3, .int .i64 K3, .int .i64 X3, .int .u64 S3] 41))
  clear hb
  go_wp2_with fail
  go_ret
  exact ⟨rfl, unhide HB⟩
set_option maxRecDepth 100000 in
set_option maxHeartbeats 2000000 in
theorem refCmp_bl {w x y K1 X1 S1 K2 X2 S2 V K3 X3 S3 : Int} {n1 n2 : Bool} (W : World) (HO1 : Hid (∀ W, Calls Try.prog 21 #[.int .i64 w, .int .u64 x] W fun r W' => r = .returned (.agg #[.bool n1, .int .i64 K1, .int .i64 X1, .int .u64 S1]) ∧ Below W.heap.size W W')) (HO2 : Hid (∀ W, Calls Try.prog 21 #[.int .i64 w, .int .u64 y] W fun r W' => r = .returned (.agg #[.bool n2, .int .i64 K2, .int .i64 X2, .int .u64 S2]) ∧ Below W.heap.size W W')) (a3 : (K1 == 3) = false) (b3 : (K2 == 3) = false) (a2 : (K1 == 2) = true) (b2 : (K2 == 2) = false) (k3 : (K3 == 0) = false) (HS : Hid (∀ W, Calls Try.prog 13 #[.int .i64 w, .int .u64 x, .int .u64 y] W fun r W' => r = .returned (.int .u64 V) ∧ Below W.heap.size W W')) (HO3 : Hid (∀ W, Calls Try.prog 21 #[.int .i64 w, .int .u64 V] W fun r W' => r = .returned (.agg #[.bool true, .int .i64 K3, .int .i64 X3, .int .u64 S3]) ∧ Below W.heap.size W W')) :
    Calls Try.prog 20 #[.int .i64 w, .int .u64 x, .int .u64 y] W fun r W' => r = .returned (.int .i64 (-1)) ∧ Below W.heap.size W W' := by
  go_enter Try.func20, Try.ntmps20
  go_wp2_with fail
  refine (unhide HO1 _).mono ?_
  rintro _ w1 ⟨rfl, hb⟩
  have HB := hide (balloc hb (.cells #[.bool n1, .int .i64 K1, .int .i64 X1, .int .u64 S1] 41))
  have HA := hide (at4_new w1 (.bool n1) (.int .i64 K1) (.int .i64 X1) (.int .u64 S1) 41)
  clear hb
  go_wp2_with fail
  refine (unhide HO2 _).mono ?_
  rintro _ w2 ⟨rfl, hb⟩
  have HB := hide (balloc (bthen (unhide HB) hb) (.cells #[.bool n2, .int .i64 K2, .int .i64 X2, .int .u64 S2] 41))
  have HA := hide (((unhide HA).below hb).below (below1 _ (.cells #[.bool n2, .int .i64 K2, .int .i64 X2, .int .u64 S2] 41)))
  have HA2 := hide (at4_new w2 (.bool n2) (.int .i64 K2) (.int .i64 X2) (.int .u64 S2) 41)
  clear hb
  obtain ⟨c0, c1, -, -⟩ := unhide HA
  obtain ⟨d0, d1, -, -⟩ := unhide HA2
  go_wp2_with fail
  refine (unhide HS _).mono ?_
  rintro _ w3 ⟨rfl, hb⟩
  have HB := hide (bthen (unhide HB) hb)
  clear hb
  go_wp2_with fail
  refine (unhide HO3 _).mono ?_
  rintro _ w4 ⟨rfl, hb⟩
  have HB := hide (balloc (bthen (unhide HB) hb) (.cells #[.bool true, .int .i64 K3, .int .i64 X3, .int .u64 S3] 41))
  clear hb
  go_wp2_with fail
  go_ret
  exact ⟨rfl, unhide HB⟩
set_option maxRecDepth 100000 in
set_option maxHeartbeats 2000000 in
theorem refCmp_bg {w x y K1 X1 S1 K2 X2 S2 V K3 X3 S3 : Int} {n1 n2 : Bool} (W : World) (HO1 : Hid (∀ W, Calls Try.prog 21 #[.int .i64 w, .int .u64 x] W fun r W' => r = .returned (.agg #[.bool n1, .int .i64 K1, .int .i64 X1, .int .u64 S1]) ∧ Below W.heap.size W W')) (HO2 : Hid (∀ W, Calls Try.prog 21 #[.int .i64 w, .int .u64 y] W fun r W' => r = .returned (.agg #[.bool n2, .int .i64 K2, .int .i64 X2, .int .u64 S2]) ∧ Below W.heap.size W W')) (a3 : (K1 == 3) = false) (b3 : (K2 == 3) = false) (a2 : (K1 == 2) = true) (b2 : (K2 == 2) = false) (k3 : (K3 == 0) = false) (HS : Hid (∀ W, Calls Try.prog 13 #[.int .i64 w, .int .u64 x, .int .u64 y] W fun r W' => r = .returned (.int .u64 V) ∧ Below W.heap.size W W')) (HO3 : Hid (∀ W, Calls Try.prog 21 #[.int .i64 w, .int .u64 V] W fun r W' => r = .returned (.agg #[.bool false, .int .i64 K3, .int .i64 X3, .int .u64 S3]) ∧ Below W.heap.size W W')) :
    Calls Try.prog 20 #[.int .i64 w, .int .u64 x, .int .u64 y] W fun r W' => r = .returned (.int .i64 1) ∧ Below W.heap.size W W' := by
  go_enter Try.func20, Try.ntmps20
  go_wp2_with fail
  refine (unhide HO1 _).mono ?_
  rintro _ w1 ⟨rfl, hb⟩
  have HB := hide (balloc hb (.cells #[.bool n1, .int .i64 K1, .int .i64 X1, .int .u64 S1] 41))
  have HA := hide (at4_new w1 (.bool n1) (.int .i64 K1) (.int .i64 X1) (.int .u64 S1) 41)
  clear hb
  go_wp2_with fail
  refine (unhide HO2 _).mono ?_
  rintro _ w2 ⟨rfl, hb⟩
  have HB := hide (balloc (bthen (unhide HB) hb) (.cells #[.bool n2, .int .i64 K2, .int .i64 X2, .int .u64 S2] 41))
  have HA := hide (((unhide HA).below hb).below (below1 _ (.cells #[.bool n2, .int .i64 K2, .int .i64 X2, .int .u64 S2] 41)))
  have HA2 := hide (at4_new w2 (.bool n2) (.int .i64 K2) (.int .i64 X2) (.int .u64 S2) 41)
  clear hb
  obtain ⟨c0, c1, -, -⟩ := unhide HA
  obtain ⟨d0, d1, -, -⟩ := unhide HA2
  go_wp2_with fail
  refine (unhide HS _).mono ?_
  rintro _ w3 ⟨rfl, hb⟩
  have HB := hide (bthen (unhide HB) hb)
  clear hb
  go_wp2_with fail
  refine (unhide HO3 _).mono ?_
  rintro _ w4 ⟨rfl, hb⟩
  have HB := hide (balloc (bthen (unhide HB) hb) (.cells #[.bool false, .int .i64 K3, .int .i64 X3, .int .u64 S3] 41))
  clear hb
  go_wp2_with fail
  go_ret
  exact ⟨rfl, unhide HB⟩
set_option maxRecDepth 100000 in
set_option maxHeartbeats 2000000 in
theorem refCmp_c0 {w x y K1 X1 S1 K2 X2 S2 V K3 X3 S3 : Int} {n1 n2 n3 : Bool} (W : World) (HO1 : Hid (∀ W, Calls Try.prog 21 #[.int .i64 w, .int .u64 x] W fun r W' => r = .returned (.agg #[.bool n1, .int .i64 K1, .int .i64 X1, .int .u64 S1]) ∧ Below W.heap.size W W')) (HO2 : Hid (∀ W, Calls Try.prog 21 #[.int .i64 w, .int .u64 y] W fun r W' => r = .returned (.agg #[.bool n2, .int .i64 K2, .int .i64 X2, .int .u64 S2]) ∧ Below W.heap.size W W')) (a3 : (K1 == 3) = false) (b3 : (K2 == 3) = false) (a2 : (K1 == 2) = true) (b2 : (K2 == 2) = true) (hn : (n1 == n2) = false) (k3 : (K3 == 0) = true) (HS : Hid (∀ W, Calls Try.prog 13 #[.int .i64 w, .int .u64 x, .int .u64 y] W fun r W' => r = .returned (.int .u64 V) ∧ Below W.heap.size W W')) (HO3 : Hid (∀ W, Calls Try.prog 21 #[.int .i64 w, .int .u64 V] W fun r W' => r = .returned (.agg #[.bool n3, .int .i64 K3, .int .i64 X3, .int .u64 S3]) ∧ Below W.heap.size W W')) :
    Calls Try.prog 20 #[.int .i64 w, .int .u64 x, .int .u64 y] W fun r W' => r = .returned (.int .i64 0) ∧ Below W.heap.size W W' := by
  go_enter Try.func20, Try.ntmps20
  go_wp2_with fail
  refine (unhide HO1 _).mono ?_
  rintro _ w1 ⟨rfl, hb⟩
  have HB := hide (balloc hb (.cells #[.bool n1, .int .i64 K1, .int .i64 X1, .int .u64 S1] 41))
  have HA := hide (at4_new w1 (.bool n1) (.int .i64 K1) (.int .i64 X1) (.int .u64 S1) 41)
  clear hb
  go_wp2_with fail
  refine (unhide HO2 _).mono ?_
  rintro _ w2 ⟨rfl, hb⟩
  have HB := hide (balloc (bthen (unhide HB) hb) (.cells #[.bool n2, .int .i64 K2, .int .i64 X2, .int .u64 S2] 41))
  have HA := hide (((unhide HA).below hb).below (below1 _ (.cells #[.bool n2, .int .i64 K2, .int .i64 X2, .int .u64 S2] 41)))
  have HA2 := hide (at4_new w2 (.bool n2) (.int .i64 K2) (.int .i64 X2) (.int .u64 S2) 41)
  clear hb
  obtain ⟨c0, c1, -, -⟩ := unhide HA
  obtain ⟨d0, d1, -, -⟩ := unhide HA2
  go_wp2_with fail
  refine (unhide HS _).mono ?_
  rintro _ w3 ⟨rfl, hb⟩
  have HB := hide (bthen (unhide HB) hb)
  clear hb
  go_wp2_with fail
  refine (unhide HO3 _).mono ?_
  rintro _ w4 ⟨rfl, hb⟩
  have HB := hide (balloc (bthen (unhide HB) hb) (.cells #[.bool n3, .int .i64 K3, .int .i64 X3, .int .u64 S3] 41))
  clear hb
  go_wp2_with fail
  go_ret
  exact ⟨rfl, unhide HB⟩
set_option maxRecDepth 100000 in
set_option maxHeartbeats 2000000 in
theorem refCmp_cl {w x y K1 X1 S1 K2 X2 S2 V K3 X3 S3 : Int} {n1 n2 : Bool} (W : World) (HO1 : Hid (∀ W, Calls Try.prog 21 #[.int .i64 w, .int .u64 x] W fun r W' => r = .returned (.agg #[.bool n1, .int .i64 K1, .int .i64 X1, .int .u64 S1]) ∧ Below W.heap.size W W')) (HO2 : Hid (∀ W, Calls Try.prog 21 #[.int .i64 w, .int .u64 y] W fun r W' => r = .returned (.agg #[.bool n2, .int .i64 K2, .int .i64 X2, .int .u64 S2]) ∧ Below W.heap.size W W')) (a3 : (K1 == 3) = false) (b3 : (K2 == 3) = false) (a2 : (K1 == 2) = true) (b2 : (K2 == 2) = true) (hn : (n1 == n2) = false) (k3 : (K3 == 0) = false) (HS : Hid (∀ W, Calls Try.prog 13 #[.int .i64 w, .int .u64 x, .int .u64 y] W fun r W' => r = .returned (.int .u64 V) ∧ Below W.heap.size W W')) (HO3 : Hid (∀ W, Calls Try.prog 21 #[.int .i64 w, .int .u64 V] W fun r W' => r = .returned (.agg #[.bool true, .int .i64 K3, .int .i64 X3, .int .u64 S3]) ∧ Below W.heap.size W W')) :
    Calls Try.prog 20 #[.int .i64 w, .int .u64 x, .int .u64 y] W fun r W' => r = .returned (.int .i64 (-1)) ∧ Below W.heap.size W W' := by
  go_enter Try.func20, Try.ntmps20
  go_wp2_with fail
  refine (unhide HO1 _).mono ?_
  rintro _ w1 ⟨rfl, hb⟩
  have HB := hide (balloc hb (.cells #[.bool n1, .int .i64 K1, .int .i64 X1, .int .u64 S1] 41))
  have HA := hide (at4_new w1 (.bool n1) (.int .i64 K1) (.int .i64 X1) (.int .u64 S1) 41)
  clear hb
  go_wp2_with fail
  refine (unhide HO2 _).mono ?_
  rintro _ w2 ⟨rfl, hb⟩
  have HB := hide (balloc (bthen (unhide HB) hb) (.cells #[.bool n2, .int .i64 K2, .int .i64 X2, .int .u64 S2] 41))
  have HA := hide (((unhide HA).below hb).below (below1 _ (.cells #[.bool n2, .int .i64 K2, .int .i64 X2, .int .u64 S2] 41)))
  have HA2 := hide (at4_new w2 (.bool n2) (.int .i64 K2) (.int .i64 X2) (.int .u64 S2) 41)
  clear hb
  obtain ⟨c0, c1, -, -⟩ := unhide HA
  obtain ⟨d0, d1, -, -⟩ := unhide HA2
  go_wp2_with fail
  refine (unhide HS _).mono ?_
  rintro _ w3 ⟨rfl, hb⟩
  have HB := hide (bthen (unhide HB) hb)
  clear hb
  go_wp2_with fail
  refine (unhide HO3 _).mono ?_
  rintro _ w4 ⟨rfl, hb⟩
  have HB := hide (balloc (bthen (unhide HB) hb) (.cells #[.bool true, .int .i64 K3, .int .i64 X3, .int .u64 S3] 41))
  clear hb
  go_wp2_with fail
  go_ret
  exact ⟨rfl, unhide HB⟩
set_option maxRecDepth 100000 in
set_option maxHeartbeats 2000000 in
theorem refCmp_cg {w x y K1 X1 S1 K2 X2 S2 V K3 X3 S3 : Int} {n1 n2 : Bool} (W : World) (HO1 : Hid (∀ W, Calls Try.prog 21 #[.int .i64 w, .int .u64 x] W fun r W' => r = .returned (.agg #[.bool n1, .int .i64 K1, .int .i64 X1, .int .u64 S1]) ∧ Below W.heap.size W W')) (HO2 : Hid (∀ W, Calls Try.prog 21 #[.int .i64 w, .int .u64 y] W fun r W' => r = .returned (.agg #[.bool n2, .int .i64 K2, .int .i64 X2, .int .u64 S2]) ∧ Below W.heap.size W W')) (a3 : (K1 == 3) = false) (b3 : (K2 == 3) = false) (a2 : (K1 == 2) = true) (b2 : (K2 == 2) = true) (hn : (n1 == n2) = false) (k3 : (K3 == 0) = false) (HS : Hid (∀ W, Calls Try.prog 13 #[.int .i64 w, .int .u64 x, .int .u64 y] W fun r W' => r = .returned (.int .u64 V) ∧ Below W.heap.size W W')) (HO3 : Hid (∀ W, Calls Try.prog 21 #[.int .i64 w, .int .u64 V] W fun r W' => r = .returned (.agg #[.bool false, .int .i64 K3, .int .i64 X3, .int .u64 S3]) ∧ Below W.heap.size W W')) :
    Calls Try.prog 20 #[.int .i64 w, .int .u64 x, .int .u64 y] W fun r W' => r = .returned (.int .i64 1) ∧ Below W.heap.size W W' := by
  go_enter Try.func20, Try.ntmps20
  go_wp2_with fail
  refine (unhide HO1 _).mono ?_
  rintro _ w1 ⟨rfl, hb⟩
  have HB := hide (balloc hb (.cells #[.bool n1, .int .i64 K1, .int .i64 X1, .int .u64 S1] 41))
  have HA := hide (at4_new w1 (.bool n1) (.int .i64 K1) (.int .i64 X1) (.int .u64 S1) 41)
  clear hb
  go_wp2_with fail
  refine (unhide HO2 _).mono ?_
  rintro _ w2 ⟨rfl, hb⟩
  have HB := hide (balloc (bthen (unhide HB) hb) (.cells #[.bool n2, .int .i64 K2, .int .i64 X2, .int .u64 S2] 41))
  have HA := hide (((unhide HA).below hb).below (below1 _ (.cells #[.bool n2, .int .i64 K2, .int .i64 X2, .int .u64 S2] 41)))
  have HA2 := hide (at4_new w2 (.bool n2) (.int .i64 K2) (.int .i64 X2) (.int .u64 S2) 41)
  clear hb
  obtain ⟨c0, c1, -, -⟩ := unhide HA
  obtain ⟨d0, d1, -, -⟩ := unhide HA2
  go_wp2_with fail
  refine (unhide HS _).mono ?_
  rintro _ w3 ⟨rfl, hb⟩
  have HB := hide (bthen (unhide HB) hb)
  clear hb
  go_wp2_with fail
  refine (unhide HO3 _).mono ?_
  rintro _ w4 ⟨rfl, hb⟩
  have HB := hide (balloc (bthen (unhide HB) hb) (.cells #[.bool false, .int .i64 K3, .int .i64 X3, .int .u64 S3] 41))
  clear hb
  go_wp2_with fail
  go_ret
  exact ⟨rfl, unhide HB⟩

end Go.Proofs.Yticbhdgamblmbaa
namespace Go.Proofs.Yticbhdgamblmbaa
open Go.RowKit
open Go.Proofs.Yticbhdgamblmbaa.W

theorem pw_of_len {x i : Nat} (h : Go.bitLen x ≤ 32 * i) : x < pw i := by rw [pw_two]; exact bl_lt h
theorem one_pw : 1 < pw 300 := lt_pw (k := 1) 300 (by rw [pw_1]; omega) (by omega)
theorem cmp_not {x y : Nat} (h : y ≤ x) : decide (cmpN x y < 0) = false := df (fun hn => by have := cmpN_ge h; omega)

/-- The last bit's place of the float that is nearest to x times 2^k, and what is taken there. -/
theorem grain_known {f b k : Int} (x : Nat) (hx0 : x ≠ 0) (f0 : 0 ≤ f ∧ f ≤ 52) (hL : -1074 ≤ 1 - b - f ∧ 1 - b - f ≤ 0) (k0 : -4000 ≤ k) (k1 : k ≤ 4000) (hx : x < pw 140) {q : Int}
    (hq : q = if (Go.bitLen x : Int) - 1 + k - f < 1 - b - f then 1 - b - f else (Go.bitLen x : Int) - 1 + k - f) :
    unitOf f.toNat (lowN f b) (x * 2 ^ (k + 5000).toNat) = (q + 5000).toNat ∧
    ∀ (a b' : Option Addr) (na ca nb cb : Nat) (W : World), IsNat W (.slice a na ca) x → IsNat W (.slice b' nb cb) 1 →
      Calls Try.prog 81 #[.agg #[.slice a na ca], .agg #[.slice b' nb cb], .int .i64 (k - q)] W fun r W' => ∃ s', r = .returned (.agg #[s']) ∧ IsNat W' s' (near (x * 2 ^ (k + 5000).toNat) (2 ^ (q + 5000).toNat)) ∧ Below W.heap.size W W' := by
  have hl := bl_shl x (k + 5000).toNat hx0
  have hbp := bl_pos hx0
  have hb140 : Go.bitLen x ≤ 4480 := by have := bitLen_pw hx; omega
  have hqr : 1 - b - f ≤ q ∧ (Go.bitLen x : Int) - 1 + k - f ≤ q ∧ q ≤ 9000 ∧ q - k ≤ 8600 := by rw [hq]; split <;> omega
  refine ⟨?_, ?_⟩
  · unfold unitOf lowN
    rw [hl, hq]
    split <;> omega
  · intro a b' na ca nb cb W ha hb
    have h1 := one_pw
    have h300 : x < pw 300 := lt_pw 300 hx (by omega)
    by_cases h0 : 0 ≤ k - q
    · have e : near (x * 2 ^ (k + 5000).toNat) (2 ^ (q + 5000).toNat) = near (x * 2 ^ (k - q).toNat) 1 := by
        rw [pow_split2 (k + 5000).toNat (k - q).toNat (q + 5000).toNat (by omega), ← Nat.mul_assoc]
        have := near_scale (x * 2 ^ (k - q).toNat) 1 (2 ^ (q + 5000).toNat) (Nat.two_pow_pos _)
        rw [Nat.one_mul] at this
        exact this
      rw [e]
      refine grain_up a b' na ca nb cb x 1 (k - q) W ha hb h300 ?_ (by omega) h1 h0 (by omega)
      refine pw_of_len ?_
      rw [bl_shl x _ hx0]
      omega
    · have e : near (x * 2 ^ (k + 5000).toNat) (2 ^ (q + 5000).toNat) = near x (1 * 2 ^ (-(k - q)).toNat) := by
        rw [pow_split2 (q + 5000).toNat (-(k - q)).toNat (k + 5000).toNat (by omega), near_scale _ _ _ (Nat.two_pow_pos _), Nat.one_mul]
      rw [e]
      exact grain_dn a b' na ca nb cb x 1 (k - q) W ha hb h300 (pow_ne _) h1 (pow_pw (by omega)) h0 (by omega) (i64_id (by omega) (by omega))

set_option maxHeartbeats 2000000 in
theorem near_known {w e f P Q b k : Int} {n : Bool} (kd : Kd w e f P Q b) (a b' : Option Addr) (na ca nb cb x : Nat) (w0 : World) (hx : IsNat w0 (.slice a na ca) x) (hy : IsNat w0 (.slice b' nb cb) 1)
    (hx0 : x ≠ 0) (k0 : -4000 ≤ k) (k1 : k ≤ 4000) (h140 : x < pw 140) :
    Calls Try.prog 65 #[.int .i64 w, .bool n, .agg #[.slice a na ca], .agg #[.slice b' nb cb], .int .i64 k] w0 fun r W' => r = .returned (.int .u64 (fl f P Q n (lid P Q (code f.toNat (lowN f b) (x * 2 ^ (k + 5000).toNat) : Nat)))) ∧ Below w0.heap.size w0 W' := by
  obtain ⟨hP, f0, f1, l0, l1, b0, b1⟩ := kd.pow
  obtain ⟨q, hq0⟩ : ∃ q : Int, q = if (Go.bitLen x : Int) - 1 + k - f < 1 - b - f then 1 - b - f else (Go.bitLen x : Int) - 1 + k - f := ⟨_, rfl⟩
  obtain ⟨hu, hg⟩ := grain_known x hx0 ⟨f0, f1⟩ ⟨l0, l1⟩ k0 k1 h140 hq0
  have hbp := bl_pos hx0
  have hb140 : Go.bitLen x ≤ 4480 := by have := bitLen_pw h140; omega
  have hup := unit_up f.toNat (lowN f b) (x * 2 ^ (k + 5000).toNat)
  have hdn := fun h => unit_dn (f := f.toNat) (L := lowN f b) (X := x * 2 ^ (k + 5000).toNat) h
  have hqr : 1 - b - f ≤ q ∧ q ≤ 9000 := by rw [hq0]; split <;> omega
  have hcode : ((code f.toNat (lowN f b) (x * 2 ^ (k + 5000).toNat) : Nat) : Int) = (q - (1 - b - f)) * P + (near (x * 2 ^ (k + 5000).toNat) (2 ^ (q + 5000).toNat) : Nat) := by
    unfold code
    rw [hu, hP, show q - (1 - b - f) = (((q + 5000).toNat - lowN f b : Nat) : Int) by unfold lowN; omega]
    simp
  rw [hcode]
  rw [hu] at hup hdn
  generalize near (x * 2 ^ (k + 5000).toNat) (2 ^ (q + 5000).toNat) = G at *
  have hup' : (G : Int) ≤ 2 * P := by rw [hP]; omega
  have hdn' : 1 - b - f < q → P ≤ (G : Int) := fun h => by
    rw [hP]
    have := hdn (by unfold lowN; omega)
    omega
  clear hcode hup hdn hu
  have HF := hide (fun W => refF_any kd W)
  have HL := hide (fun W => refLow_any kd W)
  have HT := hide (fun W => refTop_any kd W)
  have H2 := hide (fun W => two_f kd W)
  have HI := hide (fun W => refInf_any n kd W)
  have HM := fun (X Y : Int) (x0 : 0 ≤ X) (x1 : X < Q) (y0 : 0 ≤ Y) (y1 : Y < P) W => make_any n X Y kd W x0 x1 y0 y1
  have HG := hide (hg a b' na ca nb cb)
  have hq : ((Go.bitLen x : Int) - (Go.bitLen 1 : Int) + k - f < 1 - b - f ∧ q = 1 - b - f) ∨ ((Go.bitLen x : Int) - (Go.bitLen 1 : Int) + k - f = 1 - b - f ∧ q = 1 - b - f) ∨ (1 - b - f < (Go.bitLen x : Int) - (Go.bitLen 1 : Int) + k - f ∧ q = (Go.bitLen x : Int) - (Go.bitLen 1 : Int) + k - f) := by
    rw [show Go.bitLen 1 = 1 from rfl, hq0]
    split <;> omega
  have HU : 1 - b - f < (Go.bitLen x : Int) - (Go.bitLen 1 : Int) + k - f → Hid (∀ W, IsNat W (.slice a na ca) x → IsNat W (.slice b' nb cb) 1 → Calls Try.prog 80 #[.agg #[.slice a na ca], .agg #[.slice b' nb cb], .int .i64 (k - q - f)] W fun r W' => r = .returned (.bool false) ∧ Below W.heap.size W W') := by
    intro hlt W ha hb
    have hs : k - q - f = 1 - (Go.bitLen x : Int) := by
      rw [show Go.bitLen 1 = 1 from rfl] at hlt
      rw [hq0, if_neg (by omega)]
      omega
    have hxl := bl_ge (x := x) (k := Go.bitLen x - 1) (by omega)
    rw [hs]
    by_cases h1 : 0 ≤ 1 - (Go.bitLen x : Int)
    · have hu := under_up a b' na ca nb cb x 1 (1 - (Go.bitLen x : Int)) W ha hb (lt_pw 300 h140 (by omega)) h1 (by omega)
      rw [cmp_not (by have := Nat.two_pow_pos (1 - (Go.bitLen x : Int)).toNat; exact Nat.mul_pos (by omega) this)] at hu
      exact hu
    · have hu := under_dn a b' na ca nb cb x 1 (1 - (Go.bitLen x : Int)) W ha hb one_pw h1 (by omega) (i64_id (by omega) (by omega))
      rw [cmp_not (by rw [show (-(1 - (Go.bitLen x : Int))).toNat = Go.bitLen x - 1 by omega]; omega)] at hu
      exact hu
  have hl1 : (Go.bitLen 1 : Int) = 1 := rfl
  have hG3 : G < pw 300 := by
    have h2 : G < 2 ^ 54 := by rcases kd with ⟨_, _, _, rfl, _⟩ | ⟨_, _, _, rfl, _⟩ <;> omega
    exact pw_of_len (Nat.le_trans (bitLen_of h2) (by omega))
  clear hq0 hg
  rcases kd with ⟨rfl, rfl, rfl, rfl, rfl, rfl⟩ | ⟨rfl, rfl, rfl, rfl, rfl, rfl⟩
  · by_cases hbig : 2 * 8388608 ≤ G
    · have hG : G = 2 * 8388608 := by omega
      have hs2 : lo (G / 2 ^ 1) = 8388608 := by rw [hG]; rfl
      have d : (23 : Int) + 1 < (Go.bitLen G : Int) := by rw [hG]; decide +kernel
      by_cases g : 1 - 127 - 23 + (256 - 1) - 2 < q + 1
      · unfold lid
        rw [if_pos (by omega), fl_eq n (x := 256 - 1) (y := 0) (by rfl) (by rfl)]
        exact near_bi a b' na ca nb cb x 1 G w0 hx hy HF HL HT H2 rfl rfl (by omega) (by omega) (by omega) (by omega) (by omega) (by omega) rfl hq HU HG rfl d hG3 (dt g) HI
      · unfold lid
        rw [if_neg (by omega), fl_eq n (x := q + 1 - (1 - 127 - 23) + 1) (y := 8388608 - 8388608) (by omega) (by omega)]
        exact near_bn a b' na ca nb cb x 1 G w0 hx hy HF HL HT H2 rfl rfl (by omega) (by omega) (by omega) (by omega) (by omega) (by omega) rfl hq HU HG rfl d hG3 (df g) hs2 (df (by omega)) (i64_id (by omega) (by omega)) (i64_id (by omega) (by omega)) (by rw [IntKind.wrap_u64]; rfl) (hide (fun W => HM _ _ (by omega) (by omega) (by omega) (by omega) W))
    · have hs2 : lo G = (G : Int) := lo_small (by omega)
      have d : ¬ (23 : Int) + 1 < (Go.bitLen G : Int) := by
        have := bitLen_of (v := G) (k := 23 + 1) (by omega)
        omega
      by_cases g : 1 - 127 - 23 + (256 - 1) - 2 < q
      · unfold lid
        rw [if_pos (by omega), fl_eq n (x := 256 - 1) (y := 0) (by rfl) (by rfl)]
        exact near_si a b' na ca nb cb x 1 G w0 hx hy HF HL HT H2 rfl rfl (by omega) (by omega) (by omega) (by omega) (by omega) (by omega) rfl hq HU HG rfl d (dt g) HI
      · unfold lid
        rw [if_neg (by omega)]
        by_cases t : (G : Int) < 8388608
        · rw [fl_eq n (x := 0) (y := (G : Int)) (by omega) (by omega)]
          exact near_ss a b' na ca nb cb x 1 G w0 hx hy HF HL HT H2 rfl rfl (by omega) (by omega) (by omega) (by omega) (by omega) (by omega) rfl hq HU HG rfl d (df g) hs2 (dt t) (hide (fun W => HM _ _ (by omega) (by omega) (by omega) (by omega) W))
        · rw [fl_eq n (x := q - (1 - 127 - 23) + 1) (y := (G : Int) - 8388608) (by omega) (by omega)]
          exact near_sn a b' na ca nb cb x 1 G w0 hx hy HF HL HT H2 rfl rfl (by omega) (by omega) (by omega) (by omega) (by omega) (by omega) rfl hq HU HG rfl d (df g) hs2 (df t) (i64_id (by omega) (by omega)) (i64_id (by omega) (by omega)) (by rw [IntKind.wrap_u64]; omega) (hide (fun W => HM _ _ (by omega) (by omega) (by omega) (by omega) W))
  · by_cases hbig : 2 * 4503599627370496 ≤ G
    · have hG : G = 2 * 4503599627370496 := by omega
      have hs2 : lo (G / 2 ^ 1) = 4503599627370496 := by rw [hG]; rfl
      have d : (52 : Int) + 1 < (Go.bitLen G : Int) := by rw [hG]; decide +kernel
      by_cases g : 1 - 1023 - 52 + (2048 - 1) - 2 < q + 1
      · unfold lid
        rw [if_pos (by omega), fl_eq n (x := 2048 - 1) (y := 0) (by rfl) (by rfl)]
        exact near_bi a b' na ca nb cb x 1 G w0 hx hy HF HL HT H2 rfl rfl (by omega) (by omega) (by omega) (by omega) (by omega) (by omega) rfl hq HU HG rfl d hG3 (dt g) HI
      · unfold lid
        rw [if_neg (by omega), fl_eq n (x := q + 1 - (1 - 1023 - 52) + 1) (y := 4503599627370496 - 4503599627370496) (by omega) (by omega)]
        exact near_bn a b' na ca nb cb x 1 G w0 hx hy HF HL HT H2 rfl rfl (by omega) (by omega) (by omega) (by omega) (by omega) (by omega) rfl hq HU HG rfl d hG3 (df g) hs2 (df (by omega)) (i64_id (by omega) (by omega)) (i64_id (by omega) (by omega)) (by rw [IntKind.wrap_u64]; rfl) (hide (fun W => HM _ _ (by omega) (by omega) (by omega) (by omega) W))
    · have hs2 : lo G = (G : Int) := lo_small (by omega)
      have d : ¬ (52 : Int) + 1 < (Go.bitLen G : Int) := by
        have := bitLen_of (v := G) (k := 52 + 1) (by omega)
        omega
      by_cases g : 1 - 1023 - 52 + (2048 - 1) - 2 < q
      · unfold lid
        rw [if_pos (by omega), fl_eq n (x := 2048 - 1) (y := 0) (by rfl) (by rfl)]
        exact near_si a b' na ca nb cb x 1 G w0 hx hy HF HL HT H2 rfl rfl (by omega) (by omega) (by omega) (by omega) (by omega) (by omega) rfl hq HU HG rfl d (dt g) HI
      · unfold lid
        rw [if_neg (by omega)]
        by_cases t : (G : Int) < 4503599627370496
        · rw [fl_eq n (x := 0) (y := (G : Int)) (by omega) (by omega)]
          exact near_ss a b' na ca nb cb x 1 G w0 hx hy HF HL HT H2 rfl rfl (by omega) (by omega) (by omega) (by omega) (by omega) (by omega) rfl hq HU HG rfl d (df g) hs2 (dt t) (hide (fun W => HM _ _ (by omega) (by omega) (by omega) (by omega) W))
        · rw [fl_eq n (x := q - (1 - 1023 - 52) + 1) (y := (G : Int) - 4503599627370496) (by omega) (by omega)]
          exact near_sn a b' na ca nb cb x 1 G w0 hx hy HF HL HT H2 rfl rfl (by omega) (by omega) (by omega) (by omega) (by omega) (by omega) rfl hq HU HG rfl d (df g) hs2 (df t) (i64_id (by omega) (by omega)) (i64_id (by omega) (by omega)) (by rw [IntKind.wrap_u64]; omega) (hide (fun W => HM _ _ (by omega) (by omega) (by omega) (by omega) W))

end Go.Proofs.Yticbhdgamblmbaa
namespace Go.Proofs.Yticbhdgamblmbaa
open Go.RowKit
open Go.Proofs.Yticbhdgamblmbaa.W

set_option maxRecDepth 100000 in
set_option maxHeartbeats 1000000 in
theorem exact_z {w k V : Int} {n : Bool} (a : Option Addr) (na ca : Nat) (w0 : World) (hz : ((na : Int) == 0) = true) (HC : Hid (∀ W, Calls Try.prog 52 #[.int .i64 w, .bool n, .int .i64 0, .int .u64 0] W fun r W' => r = .returned (.int .u64 V) ∧ Below W.heap.size W W')) :
    Calls Try.prog 55 #[.int .i64 w, .bool n, .agg #[.slice a na ca], .int .i64 k] w0 fun r W' => r = .returned (.int .u64 V) ∧ Below w0.heap.size w0 W' := by
  go_enter Try.func55, Try.ntmps55
  go_wp2_with fail
  refine (unhide HC _).mono ?_
  rintro _ w1 ⟨rfl, hb⟩
  have HB := hide (bthen (below1 _ _) hb)
  clear hb
  go_wp2_with fail
  go_ret
  exact ⟨rfl, unhide HB⟩
set_option maxRecDepth 100000 in
set_option maxHeartbeats 1000000 in
theorem exact_l {w k V : Int} {n : Bool} (a : Option Addr) (na ca : Nat) (w0 : World) (hz : ((na : Int) == 0) = false) (g : decide (k < -4000) = true) (HC : Hid (∀ W, Calls Try.prog 52 #[.int .i64 w, .bool n, .int .i64 0, .int .u64 0] W fun r W' => r = .returned (.int .u64 V) ∧ Below W.heap.size W W')) :
    Calls Try.prog 55 #[.int .i64 w, .bool n, .agg #[.slice a na ca], .int .i64 k] w0 fun r W' => r = .returned (.int .u64 V) ∧ Below w0.heap.size w0 W' := by
  go_enter Try.func55, Try.ntmps55
  go_wp2_with fail
  refine (unhide HC _).mono ?_
  rintro _ w1 ⟨rfl, hb⟩
  have HB := hide (bthen (below1 _ _) hb)
  clear hb
  go_wp2_with fail
  go_ret
  exact ⟨rfl, unhide HB⟩
set_option maxRecDepth 100000 in
set_option maxHeartbeats 1000000 in
theorem exact_h {w k V : Int} {n : Bool} (a : Option Addr) (na ca : Nat) (w0 : World) (hz : ((na : Int) == 0) = false) (g : decide (k < -4000) = false) (g2 : decide (4000 < k) = true) (HC : Hid (∀ W, Calls Try.prog 45 #[.int .i64 w, .bool n] W fun r W' => r = .returned (.int .u64 V) ∧ Below W.heap.size W W')) :
    Calls Try.prog 55 #[.int .i64 w, .bool n, .agg #[.slice a na ca], .int .i64 k] w0 fun r W' => r = .returned (.int .u64 V) ∧ Below w0.heap.size w0 W' := by
  go_enter Try.func55, Try.ntmps55
  go_wp2_with fail
  refine (unhide HC _).mono ?_
  rintro _ w1 ⟨rfl, hb⟩
  have HB := hide (bthen (below1 _ _) hb)
  clear hb
  go_wp2_with fail
  go_ret
  exact ⟨rfl, unhide HB⟩
set_option maxRecDepth 100000 in
set_option maxHeartbeats 1000000 in
theorem exact_n {w k V : Int} {n : Bool} (a : Option Addr) (na ca x : Nat) (w0 : World) (hx : IsNat w0 (.slice a na ca) x) (hz : ((na : Int) == 0) = false) (g : decide (k < -4000) = false) (g2 : decide (4000 < k) = false)
    (HN : Hid (∀ (b' : Option Addr) (nb cb : Nat) (W : World), IsNat W (.slice a na ca) x → IsNat W (.slice b' nb cb) 1 → Calls Try.prog 65 #[.int .i64 w, .bool n, .agg #[.slice a na ca], .agg #[.slice b' nb cb], .int .i64 k] W fun r W' => r = .returned (.int .u64 V) ∧ Below W.heap.size W W')) :
    Calls Try.prog 55 #[.int .i64 w, .bool n, .agg #[.slice a na ca], .int .i64 k] w0 fun r W' => r = .returned (.int .u64 V) ∧ Below w0.heap.size w0 W' := by
  go_enter Try.func55, Try.ntmps55
  go_wp2_with fail
  have HB := hide (below1 w0 (.cells #[.slice a na ca] 65)).drew
  have HX := hide (hx.below (unhide HB))
  have HA : Hid ((w0.alloc (.cells #[.slice a na ca] 65)).drew.cell? ⟨w0.heap.size, 0, none⟩ = some (.slice a na ca)) := by unfold Hid; simp [go_sem]
  clear hx
  refine wp_region_held_drew (S := fun w' => w'.cell? ⟨w0.heap.size, 0, none⟩ = some (.slice a na ca)) (by kernel_rfl) ?_ (fun hHeld => ?_)
  · (try dsimp only)
    exact unhide HA
  refine anyH_at #[false, false, false, false, false, false, false] (by kernel_rfl) ?_
  refine wpAnyH_take (i := 0) (oi := { dst := some 25, op := _, type := _, pos := _, after := _, guard := _ }) (v := ?vv0e) rfl (by kernel_rfl) (by kernel_rfl) (by kernel_rfl) (fun _ _ _ h => h) (Or.inl ⟨by rfl, ?hy0e⟩) (by assumption) ?rest0e
  case hy0e => ((intro w hSw; (try dsimp only at hSw); go_simp) <;> with_reducible rfl)
  case rest0e =>
    (try simp only [Act.put, List.setIfInBounds_toArray, List.set_cons_zero, List.set_cons_succ])
    refine anyH_at #[true, false, false, false, false, false, false] (by kernel_rfl) ?_
    refine wpAnyH_take (i := 1) (oi := { dst := some 26, op := _, type := _, pos := _, after := _, guard := _ }) (v := ?vv1e) rfl (by kernel_rfl) (by kernel_rfl) (by kernel_rfl) (fun _ _ _ h => h) (Or.inl ⟨by rfl, ?hy1e⟩) (by assumption) ?rest1e
    case hy1e => ((intro w hSw; (try dsimp only at hSw); go_simp) <;> with_reducible rfl)
    case rest1e =>
      (try simp only [Act.put, List.setIfInBounds_toArray, List.set_cons_zero, List.set_cons_succ])
      refine anyH_at #[true, true, false, false, false, false, false] (by kernel_rfl) ?_
      refine wpAnyH_take (i := 2) (oi := { dst := some 27, op := _, type := _, pos := _, after := _, guard := _ }) (v := ?vv2e) rfl (by kernel_rfl) (by kernel_rfl) (by kernel_rfl) (fun _ _ _ h => h) (Or.inl ⟨by rfl, ?hy2e⟩) (by assumption) ?rest2e
      case hy2e => ((intro w hSw; (try dsimp only at hSw); go_simp) <;> with_reducible rfl)
      case rest2e =>
        (try simp only [Act.put, List.setIfInBounds_toArray, List.set_cons_zero, List.set_cons_succ])
        refine anyH_at #[true, true, true, false, false, false, false] (by kernel_rfl) ?_
        refine wpAnyH_take (i := 4) (oi := { dst := some 29, op := _, type := _, pos := _, after := _, guard := _ }) (v := ?vv4e) rfl (by kernel_rfl) (by kernel_rfl) (by kernel_rfl) (fun _ _ _ h => h) (Or.inl ⟨by rfl, ?hy4e⟩) (by assumption) ?rest4e
        case hy4e => ((intro w hSw; (try dsimp only at hSw); go_simp) <;> with_reducible rfl)
        case rest4e =>
          (try simp only [Act.put, List.setIfInBounds_toArray, List.set_cons_zero, List.set_cons_succ])
          refine anyH_at #[true, true, true, false, true, false, false] (by kernel_rfl) ?_
          refine wpAnyH_ready (rs := [3]) (by kernel_rfl) (by simp) ?_
          refine AllReadyH.cons (o := { dst := some 28, op := _, type := _, pos := _, after := _, guard := _ }) rfl (fun Kk hKk => ?_) AllReadyH.nil
          go_simp
          refine (refOf_1 _).mono ?_
          rintro _ w8 ⟨s8, rfl, hN8, hbl⟩
          obtain ⟨a8, n8, c8, rfl⟩ := hN8.slice
          have H8 := hide hN8
          have HX := hide ((unhide HX).below hbl)
          have HA := hide (keep1 hbl (lt_of_cell (unhide HA)) (unhide HA))
          have HB := hide (bthen (unhide HB) hbl)
          clear hbl hN8
          (try go_wp2_with fail)
          refine hKk.out _ _ ?_ (fun hHeld => ?_)
          · (try dsimp only)
            exact unhide HA
          clear hKk Kk
          (try simp only [List.setIfInBounds_toArray, List.set_cons_zero, List.set_cons_succ])
          refine anyH_at #[true, true, true, true, true, false, false] (by kernel_rfl) ?_
          refine wpAnyH_ready (rs := [5]) (by kernel_rfl) (by simp) ?_
          refine AllReadyH.cons (o := { dst := some 30, op := _, type := _, pos := _, after := _, guard := _ }) rfl (fun Kk hKk => ?_) AllReadyH.nil
          go_simp
          refine (unhide HN _ _ _ _ (unhide HX) (unhide H8)).mono ?_
          rintro _ w9 ⟨rfl, hbl⟩
          have HA := hide (keep1 hbl (lt_of_cell (unhide HA)) (unhide HA))
          have HB := hide (bthen (unhide HB) hbl)
          clear hbl
          (try go_wp2_with fail)
          refine hKk.out _ _ ?_ (fun hHeld => ?_)
          · (try dsimp only)
            exact unhide HA
          clear hKk Kk
          (try simp only [List.setIfInBounds_toArray, List.set_cons_zero, List.set_cons_succ])
          refine anyH_at #[true, true, true, true, true, true, false] (by kernel_rfl) ?_
          refine wpAnyH_take (i := 6) (oi := { dst := some 8, op := _, type := _, pos := _, after := _, guard := _ }) (v := ?vv6e) rfl (by kernel_rfl) (by kernel_rfl) (by kernel_rfl) (fun _ _ _ h => h) (Or.inl ⟨by rfl, ?hy6e⟩) (by assumption) ?rest6e
          case hy6e => ((intro w hSw; (try dsimp only at hSw); go_simp) <;> with_reducible rfl)
          case rest6e =>
            (try simp only [Act.put, List.setIfInBounds_toArray, List.set_cons_zero, List.set_cons_succ])
            refine anyH_at #[true, true, true, true, true, true, true] (by kernel_rfl) ?_
            refine wpAnyH_done (by kernel_rfl) ?_ _
            clear hHeld
            go_wp2
            go_ret
            exact ⟨rfl, unhide HB⟩

end Go.Proofs.Yticbhdgamblmbaa
namespace Go.Proofs.Yticbhdgamblmbaa
open Go.RowKit
open Go.Proofs.Yticbhdgamblmbaa.W

/-- What the document's Exact is of x times 2^k. -/
def exactN (f P Q b : Int) (n : Bool) (x : Nat) (k : Int) : Int :=
  if x = 0 ∨ k < -4000 then put f P Q n 0 0 else if 4000 < k then put f P Q n (Q - 1) 0 else fl f P Q n (lid P Q (code f.toNat (lowN f b) (x * 2 ^ (k + 5000).toNat) : Nat))

theorem exact_any {w e f P Q b k : Int} {n : Bool} (kd : Kd w e f P Q b) (x : Nat) (h140 : x < pw 140) (a : Option Addr) (na ca : Nat) (W : World) (hx : IsNat W (.slice a na ca) x) :
    Calls Try.prog 55 #[.int .i64 w, .bool n, .agg #[.slice a na ca], .int .i64 k] W fun r W' => r = .returned (.int .u64 (exactN f P Q b n x k)) ∧ Below W.heap.size W W' := by
  obtain ⟨p1, p2, q1, q2⟩ := kd.pos
  have HM := hide (fun W => make_any n 0 0 kd W (by omega) (by omega) (by omega) (by omega))
  have hp := hx.pos
  unfold exactN
  by_cases h0 : x = 0
  · rw [if_pos (Or.inl h0)]
    have : ¬ 0 < na := by rw [hp]; exact fun h => h h0
    exact exact_z a na ca W (eq_t (by omega)) HM
  · have hz : ((na : Int) == 0) = false := eq_f (by have : 0 < na := (by rw [hp]; exact h0); omega)
    by_cases h1 : k < -4000
    · rw [if_pos (Or.inr h1)]
      exact exact_l a na ca W hz (dt h1) HM
    · rw [if_neg (fun h => h.elim h0 h1)]
      by_cases h2 : 4000 < k
      · rw [if_pos h2]
        exact exact_h a na ca W hz (df h1) (dt h2) (hide (fun W => refInf_any n kd W))
      · rw [if_neg h2]
        exact exact_n a na ca x W hx hz (df h1) (df h2) (hide (fun b' nb cb W ha hb => near_known kd a b' na ca nb cb x W ha hb h0 (by omega) (by omega) h140))

end Go.Proofs.Yticbhdgamblmbaa
namespace Go.Proofs.Yticbhdgamblmbaa
open Go.RowKit
open Go.Proofs.Yticbhdgamblmbaa.W

theorem exact_rd {w e f P Q b low : Int} (k : Kd w e f P Q b) (n : Bool) (z : Nat) (h0 : -1200 ≤ low) (h1 : low ≤ 1100) : exactN f P Q b n z low = rd f P Q b n (z * 2 ^ (low + 5000).toNat) := by
  unfold exactN
  by_cases hz : z = 0
  · rw [if_pos (Or.inl hz), hz, Nat.zero_mul, rd_zero k]
  · rw [if_neg (by omega), if_neg (by omega)]
    rfl
theorem pow_dbl (j : Nat) : 2 ^ j + 2 ^ j = 2 ^ (j + 1) := by rw [Nat.pow_succ]; omega
theorem pow_bound {S d j k : Nat} (h : S < 2 ^ j) (hk : j + d ≤ k) : S * 2 ^ d < 2 ^ k := by
  have h1 : S * 2 ^ d < 2 ^ j * 2 ^ d := Nat.mul_lt_mul_of_pos_right h (Nat.two_pow_pos d)
  rw [← Nat.pow_add] at h1
  exact Nat.lt_of_lt_of_le h1 (Nat.pow_le_pow_right (by omega) hk)
theorem big_pwi {S d i : Nat} (h : S < 9007199254740992) (hd : 53 + d ≤ 32 * i) : S * 2 ^ d < pw i := by
  rw [pw_two]
  exact pow_bound (j := 53) (by omega) hd
theorem big_pw {S d : Nat} (h : S < 9007199254740992) (hd : d ≤ 2300) : S * 2 ^ d < pw 100 := big_pwi h (by omega)
theorem sum_pow {x y j k : Nat} (h1 : x < 2 ^ j) (h2 : y < 2 ^ j) (hk : j + 1 ≤ k) : x + y < 2 ^ k := by
  have h3 : 2 ^ (j + 1) ≤ 2 ^ k := Nat.pow_le_pow_right (by omega) hk
  rw [← pow_dbl] at h3
  omega
theorem sum_pwi {x y i k : Nat} (h1 : x < pw i) (h2 : y < pw i) (hk : 32 * i + 1 ≤ 32 * k) : x + y < pw k := by
  rw [pw_two] at *
  exact sum_pow h1 h2 hk
theorem sum_pw {x y : Nat} (h1 : x < pw 100) (h2 : y < pw 100) : x + y < pw 140 := sum_pwi h1 h2 (by omega)
theorem ex_at {w e f P Q b low : Int} (k : Kd w e f P Q b) (n : Bool) (z M : Nat) (hz : z < pw 140) (h0 : -1200 ≤ low) (h1 : low ≤ 1100) (hM : z * 2 ^ (low + 5000).toNat = M) :
    Hid (∀ (a : Option Addr) (m c : Nat) (W : World), IsNat W (.slice a m c) z → Calls Try.prog 55 #[.int .i64 w, .bool n, .agg #[.slice a m c], .int .i64 low] W fun r W' => r = .returned (.int .u64 (rd f P Q b n M)) ∧ Below W.heap.size W W') := by
  refine hide (fun a m c W hx => ?_)
  have := exact_any (n := n) (k := low) k z hz a m c W hx
  rw [exact_rd k n z h0 h1, hM] at this
  exact this

/-- Both at the lesser exponent, of any two that are finite. -/
theorem exsum_any {w e f P Q b K1 X1 S1 K2 X2 S2 : Int} (k : Kd w e f P Q b) (n1 n2 : Bool) (h1 : Prt f P Q b K1 X1 S1) (h2 : Prt f P Q b K2 X2 S2) (k1 : K1 ≠ 2 ∧ K1 ≠ 3) (k2 : K2 ≠ 2 ∧ K2 ≠ 3) (W : World) :
    Calls Try.prog 46 #[.int .i64 w, .agg #[.bool n1, .int .i64 K1, .int .i64 X1, .int .u64 S1], .agg #[.bool n2, .int .i64 K2, .int .i64 X2, .int .u64 S2]] W fun r W' => r = .returned (.int .u64 (addP f P Q b n1 K1 (mag X1 S1) n2 K2 (mag X2 S2))) ∧ Below W.heap.size W W' := by
  obtain ⟨x0, x1, s0, -, s1⟩ := h1.in k
  obtain ⟨y0, y1, t0, -, t1⟩ := h2.in k
  have HS : Hid (0 ≤ S1 ∧ S1 < 18446744073709551616 ∧ S1.toNat < pw 2 ∧ 0 ≤ S2 ∧ S2 < 18446744073709551616 ∧ S2.toNat < pw 2) := by
    rw [pw_2]
    exact ⟨s0, by omega, by omega, t0, by omega, by omega⟩
  have w0 : IntKind.i64.wrap 0 = ((0 : Nat) : Int) := i64_id (by omega) (by omega)
  unfold addP
  rw [if_neg (by omega), if_neg (by omega), if_neg (by omega)]
  by_cases hm : X1 ≤ X2
  · obtain ⟨d, hd⟩ : ∃ d : Nat, X2 - X1 = (d : Int) := ⟨(X2 - X1).toNat, by omega⟩
    have HD : Hid (IntKind.i64.wrap 0 = ((0 : Nat) : Int) ∧ 0 ≤ 10000 ∧ IntKind.i64.wrap (X2 - X1) = (d : Int) ∧ d ≤ 10000) := by
      rw [hd]
      exact ⟨w0, by omega, i64_id (by omega) (by omega), by omega⟩
    have b1 := big_pw (S := S1.toNat) (d := 0) (by omega) (by omega)
    have b2 := big_pw (S := S2.toNat) (d := d) (by omega) (by omega)
    have m1 : S1.toNat * 2 ^ 0 * 2 ^ (X1 + 5000).toNat = mag X1 S1 := by rw [Nat.pow_zero, Nat.mul_one]; rfl
    have m2 : S2.toNat * 2 ^ d * 2 ^ (X1 + 5000).toNat = mag X2 S2 := by
      unfold mag
      rw [Nat.mul_assoc, ← Nat.pow_add, show d + (X1 + 5000).toNat = (X2 + 5000).toNat by omega]
    have H3 : Hid (S1.toNat * 2 ^ 0 < pw 300 ∧ S2.toNat * 2 ^ d < pw 300) := ⟨lt_pw 300 b1 (by omega), lt_pw 300 b2 (by omega)⟩
    have hp := Nat.two_pow_pos (X1 + 5000).toNat
    rw [← m1, ← m2]
    by_cases hn : n1 = n2
    · rw [if_pos hn, ← Nat.add_mul]
      exact exsum_samea W hm HS HD (by simp [hn]) H3 (ex_at k n1 _ _ (sum_pw b1 b2) x0 x1 rfl)
    · rw [if_neg hn]
      have hn' : (n1 == n2) = false := by simp [hn]
      rcases Nat.lt_trichotomy (S1.toNat * 2 ^ 0) (S2.toNat * 2 ^ d) with hl | he | hl
      · rw [if_neg (Nat.ne_of_lt (Nat.mul_lt_mul_of_pos_right hl hp)), if_pos (Nat.mul_lt_mul_of_pos_right hl hp), ← Nat.sub_mul]
        exact exsum_lta W hm HS HD hn' (hide (by unfold cmpN; rw [if_pos hl])) (hide (Nat.le_of_lt hl)) H3 (ex_at k n2 _ _ (Nat.lt_of_le_of_lt (Nat.sub_le _ _) (lt_pw 140 b2 (by omega))) x0 x1 rfl)
      · rw [if_pos (by rw [he]), put_no k.f0, Int.zero_mul, Int.zero_add]
        exact exsum_eqa W hm HS HD hn' (hide (by unfold cmpN; rw [if_neg (by rw [he]; exact Nat.lt_irrefl _), if_neg (by rw [he]; exact Nat.lt_irrefl _)]))
      · have hg := Nat.mul_lt_mul_of_pos_right hl hp
        rw [if_neg (fun h => absurd hg (by rw [h]; exact Nat.lt_irrefl _)), if_neg (Nat.not_lt.2 (Nat.le_of_lt hg)), ← Nat.sub_mul]
        exact exsum_gta W hm HS HD hn' (hide (by unfold cmpN; rw [if_neg (Nat.not_lt.2 (Nat.le_of_lt hl)), if_pos hl])) (hide (Nat.le_of_lt hl)) H3 (ex_at k n1 _ _ (Nat.lt_of_le_of_lt (Nat.sub_le _ _) (lt_pw 140 b1 (by omega))) x0 x1 rfl)
  · obtain ⟨d, hd⟩ : ∃ d : Nat, X1 - X2 = (d : Int) := ⟨(X1 - X2).toNat, by omega⟩
    have HD : Hid (IntKind.i64.wrap (X1 - X2) = (d : Int) ∧ d ≤ 10000 ∧ IntKind.i64.wrap 0 = ((0 : Nat) : Int) ∧ 0 ≤ 10000) := by
      rw [hd]
      exact ⟨i64_id (by omega) (by omega), by omega, w0, by omega⟩
    have b1 := big_pw (S := S1.toNat) (d := d) (by omega) (by omega)
    have b2 := big_pw (S := S2.toNat) (d := 0) (by omega) (by omega)
    have m1 : S1.toNat * 2 ^ d * 2 ^ (X2 + 5000).toNat = mag X1 S1 := by
      unfold mag
      rw [Nat.mul_assoc, ← Nat.pow_add, show d + (X2 + 5000).toNat = (X1 + 5000).toNat by omega]
    have m2 : S2.toNat * 2 ^ 0 * 2 ^ (X2 + 5000).toNat = mag X2 S2 := by rw [Nat.pow_zero, Nat.mul_one]; rfl
    have H3 : Hid (S1.toNat * 2 ^ d < pw 300 ∧ S2.toNat * 2 ^ 0 < pw 300) := ⟨lt_pw 300 b1 (by omega), lt_pw 300 b2 (by omega)⟩
    have hp := Nat.two_pow_pos (X2 + 5000).toNat
    rw [← m1, ← m2]
    by_cases hn : n1 = n2
    · rw [if_pos hn, ← Nat.add_mul]
      exact exsum_sameb W hm HS HD (by simp [hn]) H3 (ex_at k n1 _ _ (sum_pw b1 b2) y0 y1 rfl)
    · rw [if_neg hn]
      have hn' : (n1 == n2) = false := by simp [hn]
      rcases Nat.lt_trichotomy (S1.toNat * 2 ^ d) (S2.toNat * 2 ^ 0) with hl | he | hl
      · rw [if_neg (Nat.ne_of_lt (Nat.mul_lt_mul_of_pos_right hl hp)), if_pos (Nat.mul_lt_mul_of_pos_right hl hp), ← Nat.sub_mul]
        exact exsum_ltb W hm HS HD hn' (hide (by unfold cmpN; rw [if_pos hl])) (hide (Nat.le_of_lt hl)) H3 (ex_at k n2 _ _ (Nat.lt_of_le_of_lt (Nat.sub_le _ _) (lt_pw 140 b2 (by omega))) y0 y1 rfl)
      · rw [if_pos (by rw [he]), put_no k.f0, Int.zero_mul, Int.zero_add]
        exact exsum_eqb W hm HS HD hn' (hide (by unfold cmpN; rw [if_neg (by rw [he]; exact Nat.lt_irrefl _), if_neg (by rw [he]; exact Nat.lt_irrefl _)]))
      · have hg := Nat.mul_lt_mul_of_pos_right hl hp
        rw [if_neg (fun h => absurd hg (by rw [h]; exact Nat.lt_irrefl _)), if_neg (Nat.not_lt.2 (Nat.le_of_lt hg)), ← Nat.sub_mul]
        exact exsum_gtb W hm HS HD hn' (hide (by unfold cmpN; rw [if_neg (Nat.not_lt.2 (Nat.le_of_lt hl)), if_pos hl])) (hide (Nat.le_of_lt hl)) H3 (ex_at k n1 _ _ (Nat.lt_of_le_of_lt (Nat.sub_le _ _) (lt_pw 140 b1 (by omega))) y0 y1 rfl)

theorem refParts_any {w e f P Q b K1 X1 S1 K2 X2 S2 : Int} (k : Kd w e f P Q b) (n1 n2 : Bool) (h1 : Prt f P Q b K1 X1 S1) (h2 : Prt f P Q b K2 X2 S2) (W : World) :
    Calls Try.prog 24 #[.int .i64 w, .agg #[.bool n1, .int .i64 K1, .int .i64 X1, .int .u64 S1], .agg #[.bool n2, .int .i64 K2, .int .i64 X2, .int .u64 S2]] W fun r W' => r = .returned (.int .u64 (addP f P Q b n1 K1 (mag X1 S1) n2 K2 (mag X2 S2))) ∧ Below W.heap.size W W' := by
  have HE := fun k1 k2 => hide (fun W => exsum_any k n1 n2 h1 h2 k1 k2 W)
  have HN := hide (fun W => refNan_any k W)
  have HI := fun n => hide (fun W => refInf_any n k W)
  by_cases a3 : K1 = 3
  · rw [show addP f P Q b n1 K1 (mag X1 S1) n2 K2 (mag X2 S2) = put f P Q false (Q - 1) (P / 2) by unfold addP; rw [if_pos (Or.inl a3)]]
    exact refParts_n1 W (eq_t a3) HN
  by_cases b3 : K2 = 3
  · rw [show addP f P Q b n1 K1 (mag X1 S1) n2 K2 (mag X2 S2) = put f P Q false (Q - 1) (P / 2) by unfold addP; rw [if_pos (Or.inr (Or.inl b3))]]
    exact refParts_n2 W (eq_f a3) (eq_t b3) HN
  by_cases a2 : K1 = 2
  · by_cases b2 : K2 = 2
    · by_cases hn : n1 = n2
      · rw [show addP f P Q b n1 K1 (mag X1 S1) n2 K2 (mag X2 S2) = put f P Q n1 (Q - 1) 0 by
          unfold addP
          rw [if_neg (by rintro (h | h | ⟨_, _, h⟩); exact a3 h; exact b3 h; exact h hn), if_pos a2]]
        exact refParts_i3 W (eq_f a3) (eq_f b3) (eq_t a2) (eq_t b2) (by simp [hn]) (HI n1)
      · rw [show addP f P Q b n1 K1 (mag X1 S1) n2 K2 (mag X2 S2) = put f P Q false (Q - 1) (P / 2) by unfold addP; rw [if_pos (Or.inr (Or.inr ⟨a2, b2, hn⟩))]]
        exact refParts_n3 W (eq_f a3) (eq_f b3) (eq_t a2) (eq_t b2) (by simp [hn]) HN
    · rw [show addP f P Q b n1 K1 (mag X1 S1) n2 K2 (mag X2 S2) = put f P Q n1 (Q - 1) 0 by
        unfold addP
        rw [if_neg (by omega), if_pos a2]]
      exact refParts_i1 W (eq_f a3) (eq_f b3) (eq_t a2) (eq_f b2) (HI n1)
  · by_cases b2 : K2 = 2
    · rw [show addP f P Q b n1 K1 (mag X1 S1) n2 K2 (mag X2 S2) = put f P Q n2 (Q - 1) 0 by
        unfold addP
        rw [if_neg (by omega), if_neg a2, if_pos b2]]
      exact refParts_i2 W (eq_f a3) (eq_f b3) (eq_f a2) (eq_t b2) (HI n2)
    · exact refParts_ex W (eq_f a3) (eq_f b3) (eq_f a2) (eq_f b2) (HE ⟨a2, a3⟩ ⟨b2, b3⟩)

theorem refSum_any {w e f P Q b x y : Int} (k : Kd w e f P Q b) (W : World) (x0 : 0 ≤ x) (x1 : x < 18446744073709551616) (y0 : 0 ≤ y) (y1 : y < 18446744073709551616) :
    Calls Try.prog 12 #[.int .i64 w, .int .u64 x, .int .u64 y] W fun r W' => r = .returned (.int .u64 (addB f P Q b x y)) ∧ Below W.heap.size W W' := by
  obtain ⟨X1, S1, o1, p1, m1⟩ := open_kd k x
  obtain ⟨X2, S2, o2, p2, m2⟩ := open_kd k y
  have HP := hide (fun W => refParts_any k (oN P Q x) (oN P Q y) p1 p2 W)
  unfold addB
  rw [m1, m2] at HP
  exact refAdd_l W (hide (fun W => refOpen_any x k W x0 x1 o1)) (hide (fun W => refOpen_any y k W y0 y1 o2)) HP
theorem refDif_any {w e f P Q b x y : Int} (k : Kd w e f P Q b) (W : World) (x0 : 0 ≤ x) (x1 : x < 18446744073709551616) (y0 : 0 ≤ y) (y1 : y < 18446744073709551616) :
    Calls Try.prog 13 #[.int .i64 w, .int .u64 x, .int .u64 y] W fun r W' => r = .returned (.int .u64 (subB f P Q b x y)) ∧ Below W.heap.size W W' := by
  obtain ⟨X1, S1, o1, p1, m1⟩ := open_kd k x
  obtain ⟨X2, S2, o2, p2, m2⟩ := open_kd k y
  have HP := hide (fun W => refParts_any k (oN P Q x) (!oN P Q y) p1 p2 W)
  unfold subB
  rw [m1, m2] at HP
  exact refSub_l W (hide (fun W => refOpen_any x k W x0 x1 o1)) (hide (fun W => refOpen_any y k W y0 y1 o2)) HP

end Go.Proofs.Yticbhdgamblmbaa
namespace Go.Proofs.Yticbhdgamblmbaa
open Go.RowKit

set_option maxRecDepth 100000 in
set_option maxHeartbeats 2000000 in
theorem totals_big {w : Int} (a : Option Addr) (len cap : Nat) (W : World) (h : (100 : Int) < (len : Int))
    (HW : Hid (∀ W, Calls Try.prog 8 #[] W fun r W' => r = .returned (.bool true) ∧ Below W.heap.size W W')) :
    Calls Try.prog 4 #[.int .i64 w, .slice a len cap] W fun r W' => r = .returned (.bool true) ∧ Below W.heap.size W W' := by
  go_enter Try.func4, Try.ntmps4
  go_wp2_with fail
  refine (unhide HW _).mono ?_
  rintro _ w1 ⟨rfl, hb⟩
  go_wp2_with fail
  go_ret
  exact ⟨rfl, hb⟩
set_option maxRecDepth 100000 in
set_option maxHeartbeats 2000000 in
theorem totals_no {w : Int} (a : Option Addr) (len cap : Nat) (W : World) (h : ¬ (100 : Int) < (len : Int))
    (HW : Hid (∀ W, Calls Try.prog 8 #[] W fun r W' => r = .returned (.bool true) ∧ Below W.heap.size W W'))
    (HT : Hid (∀ W', Below W.heap.size W W' → Calls Try.prog 14 #[.int .i64 w, .slice a len cap] W' fun r W'' => r = .returned (.int .u64 0) ∧ Below W'.heap.size W' W''))
    (HK : Hid (∀ W, Calls Try.prog 11 #[.int .i64 w] W fun r W' => r = .returned (.bool false) ∧ Below W.heap.size W W')) :
    Calls Try.prog 4 #[.int .i64 w, .slice a len cap] W fun r W' => r = .returned (.bool true) ∧ Below W.heap.size W W' := by
  go_enter Try.func4, Try.ntmps4
  go_wp2_with fail
  refine (unhide HW _).mono ?_
  rintro _ w1 ⟨rfl, hb⟩
  go_wp2_with fail
  refine (unhide HT _ hb).mono ?_
  rintro _ w2 ⟨rfl, hb2⟩
  go_wp2_with fail
  refine (unhide HK _).mono ?_
  rintro _ w3 ⟨rfl, hb3⟩
  go_wp2_with fail
  go_ret
  exact ⟨rfl, bthen (bthen hb hb2) hb3⟩
set_option maxRecDepth 100000 in
set_option maxHeartbeats 2000000 in
theorem totals_l {w v : Int} {A : Int → Int → Int} (a : Option Addr) (len cap : Nat) (zs : List Int) (W : World) (hr : Rd W a len zs) (h : ¬ (100 : Int) < (len : Int)) (hz : ∀ z ∈ zs, Wrd z) (hA : ∀ s z, Wrd s → Wrd z → Wrd (A s z))
    (HW' : Hid (∀ W, Calls Try.prog 8 #[] W fun r W' => r = .returned (.bool true) ∧ Below W.heap.size W W'))
    (HT : Hid (∀ W', Below W.heap.size W W' → Calls Try.prog 14 #[.int .i64 w, .slice a len cap] W' fun r W'' => r = .returned (.int .u64 v) ∧ Below W'.heap.size W' W'')) (HV : Hid (sums A zs = v))
    (HK : Hid (∀ W, Calls Try.prog 11 #[.int .i64 w] W fun r W' => r = .returned (.bool true) ∧ Below W.heap.size W W'))
    (HA : Hid (∀ s z, Wrd s → Wrd z → ∀ W, Calls Try.prog 12 #[.int .i64 w, .int .u64 s, .int .u64 z] W fun r W' => r = .returned (.int .u64 (A s z)) ∧ Below W.heap.size W W')) :
    Calls Try.prog 4 #[.int .i64 w, .slice a len cap] W fun r W' => r = .returned (.bool true) ∧ Below W.heap.size W W' := by
  have HR := hide hr
  have HW := hide (fun k => sums_wrd hA hz k)
  have Hz := hide hz
  clear hr hA hz
  go_enter Try.func4, Try.ntmps4
  go_wp2_with fail
  refine (unhide HW' _).mono ?_
  rintro _ w1 ⟨rfl, hb1⟩
  go_wp2_with fail
  refine (unhide HT _ hb1).mono ?_
  rintro _ w2 ⟨rfl, hb2⟩
  go_wp2_with fail
  refine (unhide HK _).mono ?_
  rintro _ w3 ⟨rfl, hb3⟩
  have hb3 := bthen (bthen hb1 hb2) hb3
  go_wp2_with fail
  go_loopw [6, 24] (fun t i wr => ∃ k : Nat, k ≤ len ∧ i = .int .i64 k ∧ t = .int .u64 (sums A (zs.take k)) ∧ Below W.heap.size W wr) (fun _ i _ => len - (intOf i).toNat)
  case atStart => exact ⟨0, by omega, rfl, rfl, hb3⟩
  case round =>
    obtain ⟨k, hk, rfl, rfl, hb⟩ := hrel
    by_cases hl : k < len
    · obtain ⟨b, off, rfl, hc⟩ := ((unhide HR).below hb).2 k hl
      have HS := hide (sums_step A zs k (by have := (unhide HR).1; omega))
      have HX := unhide HA _ _ (unhide HW k) (unhide Hz (zs.getD k 0) (by
        have := (unhide HR).1
        rw [List.getD_eq_getElem?_getD, List.getElem?_eq_getElem (show k < zs.length by omega)]
        exact List.getElem_mem _))
      have HX := hide HX
      generalize sums A (zs.take k) = s at *
      generalize zs.getD k 0 = z at *
      have hli : (k : Int) < (len : Int) := by omega
      go_wp2_with fail
      refine (unhide HX _).mono ?_
      rintro _ w4 ⟨rfl, hb4⟩
      go_wp2_with fail
      go_roundw
      case rel => exact ⟨k + 1, by omega, by go_num, by rw [unhide HS], bthen hb hb4⟩
      case measure => simp [intOf]; omega
    · have hli : ¬ (k : Int) < (len : Int) := by omega
      have HE : sums A (zs.take k) = v := by
        have := (unhide HR).1
        rw [List.take_of_length_le (by omega), unhide HV]
      rw [HE]
      go_wp2_with fail
      go_ret
      exact ⟨by first | rfl | simp, hb⟩

end Go.Proofs.Yticbhdgamblmbaa
namespace Go.Proofs.Yticbhdgamblmbaa
open Go.RowKit
open Go.Proofs.Yticbhdgamblmbaa.W

theorem put_in {w e f P Q b x y : Int} {n : Bool} (h : Kd w e f P Q b) (x0 : 0 ≤ x) (x1 : x < Q) (y0 : 0 ≤ y) (y1 : y < P) :
    0 ≤ put f P Q n x y ∧ put f P Q n x y < 18446744073709551616 ∧ sg P Q (put f P Q n x y) = n ∧ put f P Q n x y / P % Q = x ∧ put f P Q n x y % P = y := by
  unfold sg
  cases n
  · rw [put_no h.f0]
    rcases h with ⟨-, -, -, rfl, rfl, -⟩ | ⟨-, -, -, rfl, rfl, -⟩
    · refine ⟨by omega, by omega, ?_, by omega, by omega⟩
      show ((x * 8388608 + y) / 2147483648 % 2 == 1) = false
      exact eq_f (by omega)
    · refine ⟨by omega, by omega, ?_, by omega, by omega⟩
      show ((x * 4503599627370496 + y) / 9223372036854775808 % 2 == 1) = false
      exact eq_f (by omega)
  · rw [put_yes h.f0]
    rcases h with ⟨-, -, -, rfl, rfl, -⟩ | ⟨-, -, -, rfl, rfl, -⟩
    · refine ⟨by omega, by omega, ?_, by omega, by omega⟩
      show ((x * 8388608 + y + 2147483648) / 2147483648 % 2 == 1) = true
      exact eq_t (by omega)
    · refine ⟨by omega, by omega, ?_, by omega, by omega⟩
      show ((x * 4503599627370496 + y + 9223372036854775808) / 9223372036854775808 % 2 == 1) = true
      exact eq_t (by omega)

/-- The infinite one's code. -/
def top (P Q : Int) : Int := (Q - 1) * P
theorem top_pos {w e f P Q b : Int} (k : Kd w e f P Q b) : 0 < top P Q := by
  unfold top
  rcases k with ⟨-, -, -, rfl, rfl, -⟩ | ⟨-, -, -, rfl, rfl, -⟩ <;> omega
/-- The canonical NaN. -/
def nanB (f P Q : Int) : Int := put f P Q false (Q - 1) (P / 2)

theorem code_parts {w e f P Q b c : Int} (k : Kd w e f P Q b) (c0 : 0 ≤ c) (c1 : c ≤ top P Q) : 0 ≤ c / P ∧ c / P < Q ∧ 0 ≤ c % P ∧ c % P < P ∧ c / P * P + c % P = c ∧ (c / P = Q - 1 ↔ c = top P Q) ∧ (c = top P Q → c % P = 0) := by
  unfold top at *
  rcases k with ⟨-, -, -, rfl, rfl, -⟩ | ⟨-, -, -, rfl, rfl, -⟩ <;> (refine ⟨?_, ?_, ?_, ?_, ?_, ?_, ?_⟩ <;> omega)

/-- A float's own code, sign and kind. -/
theorem fl_facts {w e f P Q b c : Int} (k : Kd w e f P Q b) (n : Bool) (c0 : 0 ≤ c) (c1 : c ≤ top P Q) :
    0 ≤ fl f P Q n c ∧ fl f P Q n c < 18446744073709551616 ∧ ((oc P Q (fl f P Q n c) : Nat) : Int) = c ∧ oN P Q (fl f P Q n c) = n ∧ cutN f P Q (fl f P Q n c) = fl f P Q n c ∧ (fl f P Q n c / P % Q == Q - 1 && fl f P Q n c % P != 0) = false := by
  obtain ⟨a0, a1, d0, d1, he, ht, hz⟩ := code_parts k c0 c1
  have hf : fl f P Q n c = put f P Q n (c / P) (c % P) := rfl
  obtain ⟨r0, r1, r2, r3, r4⟩ := put_in (n := n) k a0 a1 d0 d1
  rw [← hf] at r0 r1 r2 r3 r4
  refine ⟨r0, r1, ?_, ?_, ?_, ?_⟩
  · unfold oc
    rw [r3, r4, he, Int.toNat_of_nonneg c0]
  · unfold oN
    rw [r2, r3, r4, if_neg (fun h => h.2 (hz (ht.1 h.1)))]
  · rw [← cut_put k.wd.sz, r2, r3, r4]
    exact hf.symm
  · rw [r3, r4]
    by_cases h : c = top P Q
    · simp [hz h]
    · rw [eq_f (fun h' => h (ht.1 h'))]
      rfl
theorem nan_facts {w e f P Q b : Int} (k : Kd w e f P Q b) :
    0 ≤ nanB f P Q ∧ nanB f P Q < 18446744073709551616 ∧ oK P Q (nanB f P Q) = 3 ∧ cutN f P Q (nanB f P Q) = nanB f P Q ∧ (nanB f P Q / P % Q == Q - 1 && nanB f P Q % P != 0) = true := by
  obtain ⟨p1, p2, q1, q2⟩ := k.pos
  have h2 : P / 2 ≠ 0 := by omega
  obtain ⟨r0, r1, r2, r3, r4⟩ := put_in (x := Q - 1) (y := P / 2) (n := false) k (by omega) (by omega) (by omega) (by omega)
  unfold nanB
  refine ⟨r0, r1, ?_, ?_, ?_⟩
  · unfold oK
    rw [r3, r4, if_pos rfl, if_neg h2]
  · rw [← cut_put k.wd.sz, r2, r3, r4]
  · rw [r3, r4]
    simp [h2]

/-- A float by its code. -/
theorem kind_oc {w e f P Q b : Int} (k : Kd w e f P Q b) (x : Int) :
    (oK P Q x = 3 ∧ top P Q < oc P Q x ∧ oN P Q x = false) ∨ (oK P Q x = 2 ∧ (oc P Q x : Int) = top P Q ∧ oM f P Q b x = 0) ∨
    (oK P Q x = 1 ∧ 0 < oc P Q x ∧ (oc P Q x : Int) < top P Q ∧ oM f P Q b x = fval f.toNat (lowN f b) (oc P Q x)) ∨ (oK P Q x = 0 ∧ oc P Q x = 0 ∧ oM f P Q b x = 0) := by
  obtain ⟨p1, p2, q1, q2⟩ := k.pos
  obtain ⟨u, v⟩ := exp_in (x / P) (show 1 ≤ Q by omega)
  obtain ⟨u', v'⟩ := exp_in x (show 1 ≤ P by omega)
  unfold oM oN oK
  have hc : ((oc P Q x : Nat) : Int) = x / P % Q * P + x % P := by
    unfold oc
    have := Int.mul_nonneg u (show 0 ≤ P by omega)
    omega
  have hz := fval_zero f.toNat (lowN f b)
  generalize oc P Q x = c at *
  generalize x / P % Q = e at *
  generalize x % P = y at *
  generalize sg P Q x = n at *
  by_cases h1 : e = Q - 1
  · rw [if_pos h1, if_pos h1]
    by_cases h2 : y = 0
    · rw [if_pos h2]
      refine Or.inr (Or.inl ⟨rfl, ?_, rfl⟩)
      rw [hc, h1, h2]
      unfold top
      omega
    · rw [if_neg h2, if_pos ⟨h1, h2⟩]
      refine Or.inl ⟨rfl, ?_, rfl⟩
      rw [hc, h1]
      unfold top
      omega
  · rw [if_neg h1, if_neg h1]
    by_cases h2 : e = 0 ∧ y = 0
    · rw [if_pos h2]
      have : c = 0 := by
        rw [h2.1, h2.2] at hc
        omega
      subst this
      exact Or.inr (Or.inr (Or.inr ⟨rfl, rfl, hz⟩))
    · rw [if_neg h2]
      refine Or.inr (Or.inr (Or.inl ⟨rfl, ?_, ?_, rfl⟩))
      · rcases k with ⟨-, -, -, rfl, rfl, -⟩ | ⟨-, -, -, rfl, rfl, -⟩ <;> omega
      · unfold top
        rcases k with ⟨-, -, -, rfl, rfl, -⟩ | ⟨-, -, -, rfl, rfl, -⟩ <;> omega
theorem oM_fin {w e f P Q b : Int} (k : Kd w e f P Q b) {x : Int} (h : oK P Q x ≠ 3 ∧ oK P Q x ≠ 2) : oM f P Q b x = fval f.toNat (lowN f b) (oc P Q x) ∧ (oc P Q x : Int) < top P Q := by
  have ht := top_pos k
  rcases kind_oc k x with ⟨h1, _⟩ | ⟨h1, _⟩ | ⟨_, _, h2, h3⟩ | ⟨_, h2, h3⟩
  · exact absurd h1 h.1
  · exact absurd h1 h.2
  · exact ⟨h3, h2⟩
  · rw [h2, h3, fval_zero]
    exact ⟨rfl, ht⟩
/-- What a float's bits are by its sign and its code. -/
theorem cut_fl {w e f P Q b : Int} (k : Kd w e f P Q b) {x : Int} (h : oK P Q x ≠ 3) : cutN f P Q x = fl f P Q (oN P Q x) (oc P Q x : Int) := by
  obtain ⟨p1, p2, q1, q2⟩ := k.pos
  obtain ⟨u, v⟩ := exp_in (x / P) (show 1 ≤ Q by omega)
  obtain ⟨u', v'⟩ := exp_in x (show 1 ≤ P by omega)
  rw [← cut_put k.wd.sz]
  have hn : oN P Q x = sg P Q x := by
    unfold oN
    unfold oK at h
    by_cases h1 : x / P % Q = Q - 1
    · rw [if_pos h1] at h
      by_cases h2 : x % P = 0
      · rw [if_neg (fun h' => h'.2 h2)]
      · rw [if_neg h2] at h
        exact absurd rfl h
    · rw [if_neg (fun h' => h1 h'.1)]
  have hc : ((oc P Q x : Nat) : Int) = x / P % Q * P + x % P := by
    unfold oc
    have := Int.mul_nonneg u (show 0 ≤ P by omega)
    omega
  unfold fl
  rw [hn, hc]
  generalize x / P % Q = e at *
  generalize x % P = y at *
  congr 1
  · rw [Int.add_comm, Int.add_mul_ediv_right _ _ (by omega), Int.ediv_eq_zero_of_lt u' v', Int.zero_add]
  · rw [Int.add_comm, Int.add_mul_emod_self_right, Int.emod_eq_of_lt u' v']

theorem lid_top {w e f P Q b : Int} (k : Kd w e f P Q b) (c : Nat) : 0 ≤ lid P Q c ∧ lid P Q c ≤ top P Q := lid_in k c
theorem put_inf {w e f P Q b : Int} (k : Kd w e f P Q b) (n : Bool) : put f P Q n (Q - 1) 0 = fl f P Q n (top P Q) := by
  have ht := top_pos k
  obtain ⟨_, _, _, _, _, h1, h2⟩ := code_parts k (Int.le_of_lt ht) (Int.le_refl _)
  unfold fl
  rw [h1.2 rfl, h2 rfl]
theorem put_nought {f P Q : Int} (n : Bool) : put f P Q n 0 0 = fl f P Q n 0 := by
  unfold fl
  simp
/-- What a sum is: the canonical NaN, or a float. -/
theorem add_form {w e f P Q b : Int} (k : Kd w e f P Q b) (n1 n2 : Bool) (K1 K2 : Int) (M1 M2 : Nat) :
    addP f P Q b n1 K1 M1 n2 K2 M2 = nanB f P Q ∨ ∃ n c, 0 ≤ c ∧ c ≤ top P Q ∧ addP f P Q b n1 K1 M1 n2 K2 M2 = fl f P Q n c := by
  have ht := top_pos k
  unfold addP
  split
  · exact Or.inl rfl
  refine Or.inr ?_
  split
  · exact ⟨_, _, Int.le_of_lt ht, Int.le_refl _, put_inf k _⟩
  split
  · exact ⟨_, _, Int.le_of_lt ht, Int.le_refl _, put_inf k _⟩
  split
  · exact ⟨_, _, (lid_top k _).1, (lid_top k _).2, rfl⟩
  split
  · exact ⟨_, _, Int.le_refl _, Int.le_of_lt ht, put_nought _⟩
  split
  · exact ⟨_, _, (lid_top k _).1, (lid_top k _).2, rfl⟩
  · exact ⟨_, _, (lid_top k _).1, (lid_top k _).2, rfl⟩

/-- A float's number is rounded to itself. -/
theorem rd_val {w e f P Q b : Int} (_ : Kd w e f P Q b) (n : Bool) {c : Nat} (h : (c : Int) < top P Q) : rd f P Q b n (fval f.toNat (lowN f b) c) = fl f P Q n c := by
  unfold rd
  rw [fval_code]
  unfold lid
  rw [if_neg (show ¬ (Q - 1) * P ≤ (c : Int) by unfold top at h; omega)]

/-- The sum of a float and nought. -/
theorem add_nought {w e f P Q b : Int} (k : Kd w e f P Q b) {x : Int} (h : oK P Q x ≠ 3) (h0 : oK P Q x ≠ 0) : addB f P Q b x 0 = cutN f P Q x := by
  have hz : oK P Q 0 = 0 ∧ oM f P Q b 0 = 0 := by
    have hc : oc P Q 0 = 0 := by
      unfold oc
      simp
    have ht := top_pos k
    rcases kind_oc k 0 with ⟨_, h1, _⟩ | ⟨_, h1, _⟩ | ⟨_, h1, _⟩ | ⟨h1, _, h2⟩
    · omega
    · omega
    · omega
    · exact ⟨h1, h2⟩
  rw [cut_fl k h]
  unfold addB
  rw [hz.1, hz.2]
  unfold addP
  rw [if_neg (by omega)]
  rcases kind_oc k x with ⟨h1, _⟩ | ⟨h1, h2, _⟩ | ⟨h1, h2, h3, h4⟩ | ⟨h1, _⟩
  · exact absurd h1 h
  · rw [if_pos h1, h2, put_inf k]
  · rw [if_neg (by omega), if_neg (by omega), h4]
    have hp := fval_pos (f := f.toNat) (L := lowN f b) (c := oc P Q x) (by omega)
    by_cases hn : oN P Q x = oN P Q 0
    · rw [if_pos hn, Nat.add_zero, rd_val k _ h3]
    · rw [if_neg hn, if_neg (by omega), if_neg (by omega), Nat.sub_zero, rd_val k _ h3]
  · exact absurd h1 h0

/-- A float less itself. -/
theorem sub_self {w e f P Q b : Int} (k : Kd w e f P Q b) {x : Int} : (oK P Q x = 2 → subB f P Q b x x = nanB f P Q) ∧ (oK P Q x ≠ 2 → oK P Q x ≠ 3 → subB f P Q b x x = 0) := by
  unfold subB addP
  refine ⟨fun h => ?_, fun h h3 => ?_⟩
  · rw [if_pos (Or.inr (Or.inr ⟨h, h, by cases oN P Q x <;> simp⟩))]
    rfl
  · rw [if_neg (by omega), if_neg h, if_neg h, if_neg (by cases oN P Q x <;> simp), if_pos rfl, put_no k.f0]
    omega
theorem add_nan {f P Q b x y : Int} (h : oK P Q x = 3) : addB f P Q b x y = nanB f P Q ∧ subB f P Q b y x = nanB f P Q := by
  unfold subB addB addP
  rw [if_pos (Or.inl h), if_pos (Or.inr (Or.inl h))]
  exact ⟨rfl, rfl⟩
theorem addB_comm (f P Q b x y : Int) : addB f P Q b x y = addB f P Q b y x := add_comm _ _ _ _ _ _

theorem xor_bit (m f e : Nat) : (m ^^^ 2 ^ (f + e)) % 2 ^ f = m % 2 ^ f ∧ (m ^^^ 2 ^ (f + e)) / 2 ^ f % 2 ^ e = m / 2 ^ f % 2 ^ e ∧ (m ^^^ 2 ^ (f + e)) / 2 ^ (f + e) % 2 = 1 - m / 2 ^ (f + e) % 2 := by
  refine ⟨?_, ?_, ?_⟩
  · rw [Nat.xor_mod_two_pow, Nat.pow_add, Nat.mul_mod_right, Nat.xor_zero]
  · rw [Nat.xor_div_two_pow, Nat.pow_add, Nat.mul_div_cancel_left _ (Nat.two_pow_pos f), Nat.xor_mod_two_pow, Nat.mod_self, Nat.xor_zero]
  · rw [Nat.xor_div_two_pow, Nat.div_self (Nat.two_pow_pos _)]
    have h := Nat.xor_mod_two_eq_one (a := m / 2 ^ (f + e)) (b := 1)
    generalize m / 2 ^ (f + e) = t at *
    have h1 := Nat.mod_two_eq_zero_or_one t
    have h2 := Nat.mod_two_eq_zero_or_one (t ^^^ 1)
    rcases h1 with h1 | h1 <;> rcases h2 with h2 | h2 <;> simp [h1, h2] at h ⊢
/-- A float with the other sign. -/
theorem other_sign {w e f P Q b x : Int} (k : Kd w e f P Q b) (x0 : 0 ≤ x) (x1 : x < 18446744073709551616) : ∃ x', bits .xor .u64 x (put f P Q true 0 0) = x' ∧ 0 ≤ x' ∧ x' < 18446744073709551616 ∧ x' / P % Q = x / P % Q ∧ x' % P = x % P ∧ sg P Q x' = !sg P Q x := by
  refine ⟨_, rfl, ?_⟩
  rw [put_yes k.f0]
  obtain ⟨m, rfl⟩ := Int.eq_ofNat_of_zero_le x0
  have hlt : m < 2 ^ 64 := by omega
  unfold sg
  rcases k with ⟨-, -, -, rfl, rfl, -⟩ | ⟨-, -, -, rfl, rfl, -⟩
  · rw [show (0 : Int) * 8388608 + 0 + 8388608 * 256 = ((2147483648 : Nat) : Int) from rfl, u64_xor_nat m 2147483648 (by omega) (by omega)]
    obtain ⟨a, c, d⟩ := xor_bit m 23 8
    have hb : m ^^^ 2 ^ (23 + 8) < 2 ^ 64 := Nat.xor_lt_two_pow hlt (by decide)
    rw [show 2147483648 = 2 ^ (23 + 8) from rfl]
    generalize m ^^^ 2 ^ (23 + 8) = t at *
    rw [show 2 ^ 23 = 8388608 from rfl] at a c
    rw [show 2 ^ 8 = 256 from rfl] at c
    rw [show 2 ^ (23 + 8) = 2147483648 from rfl] at d
    rw [show (8388608 : Int) * 256 = 2147483648 from rfl]
    refine ⟨by omega, by omega, by omega, by omega, ?_⟩
    rcases Nat.mod_two_eq_zero_or_one (m / 2147483648) with h | h
    · rw [eq_t (show (t : Int) / 2147483648 % 2 = 1 by omega), eq_f (show ¬ (m : Int) / 2147483648 % 2 = 1 by omega)]
      rfl
    · rw [eq_f (show ¬ (t : Int) / 2147483648 % 2 = 1 by omega), eq_t (show (m : Int) / 2147483648 % 2 = 1 by omega)]
      rfl
  · rw [show (0 : Int) * 4503599627370496 + 0 + 4503599627370496 * 2048 = ((9223372036854775808 : Nat) : Int) from rfl, u64_xor_nat m 9223372036854775808 (by omega) (by omega)]
    obtain ⟨a, c, d⟩ := xor_bit m 52 11
    have hb : m ^^^ 2 ^ (52 + 11) < 2 ^ 64 := Nat.xor_lt_two_pow hlt (by decide)
    rw [show 9223372036854775808 = 2 ^ (52 + 11) from rfl]
    generalize m ^^^ 2 ^ (52 + 11) = t at *
    rw [show 2 ^ 52 = 4503599627370496 from rfl] at a c
    rw [show 2 ^ 11 = 2048 from rfl] at c
    rw [show 2 ^ (52 + 11) = 9223372036854775808 from rfl] at d
    rw [show (4503599627370496 : Int) * 2048 = 9223372036854775808 from rfl]
    refine ⟨by omega, by omega, by omega, by omega, ?_⟩
    rcases Nat.mod_two_eq_zero_or_one (m / 9223372036854775808) with h | h
    · rw [eq_t (show (t : Int) / 9223372036854775808 % 2 = 1 by omega), eq_f (show ¬ (m : Int) / 9223372036854775808 % 2 = 1 by omega)]
      rfl
    · rw [eq_f (show ¬ (t : Int) / 9223372036854775808 % 2 = 1 by omega), eq_t (show (m : Int) / 9223372036854775808 % 2 = 1 by omega)]
      rfl
/-- A difference is the sum with the other sign. -/
theorem sub_add {f P Q b x x' : Int} (y : Int) (h : oK P Q x ≠ 3) (h1 : x' / P % Q = x / P % Q) (h2 : x' % P = x % P) (h3 : sg P Q x' = !sg P Q x) : subB f P Q b y x = addB f P Q b y x' := by
  have e1 : oK P Q x' = oK P Q x := by unfold oK; rw [h1, h2]
  have e2 : oM f P Q b x' = oM f P Q b x := by unfold oM oc; rw [h1, h2]
  have e3 : oN P Q x' = !oN P Q x := by
    unfold oN
    rw [h1, h2, h3]
    unfold oK at h
    by_cases g1 : x / P % Q = Q - 1
    · rw [if_pos g1] at h
      by_cases g2 : x % P = 0
      · rw [if_neg (fun h' => h'.2 g2), if_neg (fun h' => h'.2 g2)]
      · rw [if_neg g2] at h
        exact absurd rfl h
    · rw [if_neg (fun h' => g1 h'.1), if_neg (fun h' => g1 h'.1)]
  unfold subB addB
  rw [e1, e2, e3]

end Go.Proofs.Yticbhdgamblmbaa
namespace Go.Proofs.Yticbhdgamblmbaa
open Go.RowKit
open Go.Proofs.Yticbhdgamblmbaa.W

/-- A float's code with its sign. -/
def sc (P Q x : Int) : Int := if oN P Q x then -(oc P Q x : Int) else (oc P Q x : Int)
/-- What two floats are to each other. -/
def cmpB (P Q x y : Int) : Int := if oK P Q x = 3 ∨ oK P Q y = 3 then 2 else if sc P Q x < sc P Q y then -1 else if sc P Q x = sc P Q y then 0 else 1
/-- A signed number's nearest float's code, with its sign. -/
def rz (f P Q b : Int) (z : Int) : Int := if z < 0 then -(lid P Q (code f.toNat (lowN f b) (-z).toNat : Nat)) else lid P Q (code f.toNat (lowN f b) z.toNat : Nat)
/-- A float's number with its sign. -/
def sv (f P Q b x : Int) : Int := if oN P Q x then -(oM f P Q b x : Int) else (oM f P Q b x : Int)

/-- A float of a sign and a code: its kind. -/
theorem fl_kind {w e f P Q b c : Int} (k : Kd w e f P Q b) (n : Bool) (c0 : 0 ≤ c) (c1 : c ≤ top P Q) :
    oK P Q (fl f P Q n c) ≠ 3 ∧ (oK P Q (fl f P Q n c) = 0 ↔ c = 0) ∧ (oK P Q (fl f P Q n c) = 2 ↔ c = top P Q) ∧ sc P Q (fl f P Q n c) = (if n then -c else c) := by
  obtain ⟨-, -, r2, r3, -, -⟩ := fl_facts k n c0 c1
  have ht := top_pos k
  have hs : sc P Q (fl f P Q n c) = (if n then -c else c) := by
    unfold sc
    rw [r2, r3]
  refine ⟨?_, ?_, ?_, hs⟩ <;> rcases kind_oc k (fl f P Q n c) with ⟨h, h1, _⟩ | ⟨h, h1, _⟩ | ⟨h, h1, h2, _⟩ | ⟨h, h1, _⟩ <;> omega

theorem fval_dvd (f L c : Nat) : 2 ^ L ∣ fval f L c := by
  obtain ⟨s, k, -, -, hk, -, e⟩ := fval_ex f L c
  rw [e]
  exact Nat.dvd_trans (Nat.pow_dvd_pow 2 hk) (Nat.dvd_mul_left _ _)
/-- A number of the least floats' grain that isn't nought isn't rounded to it. -/
theorem code_ne {f L M : Nat} (h : 2 ^ L ∣ M) (h0 : 0 < M) : 0 < code f L M := by
  have h1 : fval f L 1 ≤ M := by
    unfold fval
    rw [if_pos (by rw [Nat.pow_succ]; have := Nat.two_pow_pos f; omega), Nat.one_mul]
    exact Nat.le_of_dvd h0 h
  have h2 := code_mono f L h1
  rw [fval_code] at h2
  omega
theorem lid_ne {w e f P Q b : Int} (k : Kd w e f P Q b) {c : Nat} (h : 0 < c) : 0 < lid P Q c := by
  have := top_pos k
  unfold top at this
  unfold lid
  split <;> omega
theorem rd_pos {w e f P Q b : Int} (k : Kd w e f P Q b) (n : Bool) {M : Nat} (h : 2 ^ lowN f b ∣ M) (h0 : 0 < M) :
    oK P Q (rd f P Q b n M) ≠ 0 ∧ oK P Q (rd f P Q b n M) ≠ 3 ∧ oN P Q (rd f P Q b n M) = n ∧ 0 ≤ rd f P Q b n M ∧ rd f P Q b n M < 18446744073709551616 := by
  have hl := lid_ne k (code_ne (f := f.toNat) h h0)
  obtain ⟨c0, c1⟩ := lid_top k (code f.toNat (lowN f b) M)
  obtain ⟨a1, a2, -, -⟩ := fl_kind k n c0 c1
  obtain ⟨b0, b1, -, b3, -, -⟩ := fl_facts k n c0 c1
  exact ⟨fun h => by have := a2.1 h; omega, a1, b3, b0, b1⟩

/-- The difference tells how two floats that aren't the same infinite one are to each other. -/
theorem dif_sign {w e f P Q b x y : Int} (k : Kd w e f P Q b) (hx : oK P Q x ≠ 3) (hy : oK P Q y ≠ 3) (hi : ¬ (oK P Q x = 2 ∧ oK P Q y = 2 ∧ oN P Q x = oN P Q y)) :
    0 ≤ subB f P Q b x y ∧ subB f P Q b x y < 18446744073709551616 ∧ (oK P Q (subB f P Q b x y) = 0 ∧ sc P Q x = sc P Q y ∨ oK P Q (subB f P Q b x y) ≠ 0 ∧ oN P Q (subB f P Q b x y) = true ∧ sc P Q x < sc P Q y ∨ oK P Q (subB f P Q b x y) ≠ 0 ∧ oN P Q (subB f P Q b x y) = false ∧ sc P Q y < sc P Q x) := by
  have ht := top_pos k
  have hz : ∀ n : Bool, 0 ≤ put f P Q n 0 0 ∧ put f P Q n 0 0 < 18446744073709551616 ∧ oK P Q (put f P Q n 0 0) = 0 := fun n => by
    rw [put_nought]
    obtain ⟨a0, a1, -⟩ := fl_facts k n (Int.le_refl 0) (Int.le_of_lt ht)
    exact ⟨a0, a1, (fl_kind k n (Int.le_refl 0) (Int.le_of_lt ht)).2.1.2 rfl⟩
  have hinf : ∀ n : Bool, 0 ≤ put f P Q n (Q - 1) 0 ∧ put f P Q n (Q - 1) 0 < 18446744073709551616 ∧ oK P Q (put f P Q n (Q - 1) 0) ≠ 0 ∧ oN P Q (put f P Q n (Q - 1) 0) = n := fun n => by
    rw [put_inf k]
    obtain ⟨a0, a1, -, a3, -⟩ := fl_facts k n (Int.le_of_lt ht) (Int.le_refl _)
    exact ⟨a0, a1, fun h => by have := (fl_kind k n (Int.le_of_lt ht) (Int.le_refl _)).2.1.1 h; omega, a3⟩
  have hcx : (oc P Q x : Int) ≤ top P Q ∧ (oK P Q x ≠ 2 → (oc P Q x : Int) < top P Q) ∧ (oK P Q x = 2 → (oc P Q x : Int) = top P Q) := by
    rcases kind_oc k x with ⟨h, h1, _⟩ | ⟨h, h1, _⟩ | ⟨h, h1, h2, _⟩ | ⟨h, h1, _⟩ <;> omega
  have hcy : (oc P Q y : Int) ≤ top P Q ∧ (oK P Q y ≠ 2 → (oc P Q y : Int) < top P Q) ∧ (oK P Q y = 2 → (oc P Q y : Int) = top P Q) := by
    rcases kind_oc k y with ⟨h, h1, _⟩ | ⟨h, h1, _⟩ | ⟨h, h1, h2, _⟩ | ⟨h, h1, _⟩ <;> omega
  have hni : ¬ (oK P Q x = 3 ∨ oK P Q y = 3 ∨ (oK P Q x = 2 ∧ oK P Q y = 2 ∧ oN P Q x ≠ !oN P Q y)) := by
    rintro (h | h | ⟨h1, h2, h⟩)
    · exact hx h
    · exact hy h
    · refine hi ⟨h1, h2, ?_⟩
      revert h
      cases oN P Q x <;> cases oN P Q y <;> simp
  unfold subB addP
  rw [if_neg hni]
  by_cases kx : oK P Q x = 2
  · rw [if_pos kx]
    obtain ⟨a0, a1, a2, a3⟩ := hinf (oN P Q x)
    refine ⟨a0, a1, ?_⟩
    rw [a3]
    have e1 := hcx.2.2 kx
    unfold sc
    cases hnx : oN P Q x
    · refine Or.inr (Or.inr ⟨by rw [hnx] at a2; exact a2, rfl, ?_⟩)
      by_cases ky : oK P Q y = 2
      · have : oN P Q y = true := by
          have := fun h => hi ⟨kx, ky, h⟩
          rw [hnx] at this
          revert this
          cases oN P Q y <;> simp
        simp [this]
        omega
      · have e2 := hcy.2.1 ky
        cases oN P Q y <;> simp <;> omega
    · refine Or.inr (Or.inl ⟨by rw [hnx] at a2; exact a2, rfl, ?_⟩)
      by_cases ky : oK P Q y = 2
      · have : oN P Q y = false := by
          have := fun h => hi ⟨kx, ky, h⟩
          rw [hnx] at this
          revert this
          cases oN P Q y <;> simp
        simp [this]
        omega
      · have e2 := hcy.2.1 ky
        cases oN P Q y <;> simp <;> omega
  · rw [if_neg kx]
    have e1 := hcx.2.1 kx
    by_cases ky : oK P Q y = 2
    · rw [if_pos ky]
      obtain ⟨a0, a1, a2, a3⟩ := hinf (!oN P Q y)
      refine ⟨a0, a1, ?_⟩
      rw [a3]
      have e2 := hcy.2.2 ky
      unfold sc
      cases hny : oN P Q y
      · refine Or.inr (Or.inl ⟨by rw [hny] at a2; exact a2, rfl, ?_⟩)
        cases oN P Q x <;> simp <;> omega
      · refine Or.inr (Or.inr ⟨by rw [hny] at a2; exact a2, rfl, ?_⟩)
        cases oN P Q x <;> simp <;> omega
    · rw [if_neg ky]
      obtain ⟨mx, lx⟩ := oM_fin k ⟨hx, kx⟩
      obtain ⟨my, ly⟩ := oM_fin k ⟨hy, ky⟩
      have dx := fval_dvd f.toNat (lowN f b) (oc P Q x)
      have dy := fval_dvd f.toNat (lowN f b) (oc P Q y)
      rw [mx, my]
      by_cases hn : oN P Q x = !oN P Q y
      · rw [if_pos hn]
        by_cases hs : fval f.toNat (lowN f b) (oc P Q x) + fval f.toNat (lowN f b) (oc P Q y) = 0
        · rw [hs, rd_zero k]
          obtain ⟨a0, a1, a2⟩ := hz (oN P Q x)
          refine ⟨a0, a1, Or.inl ⟨a2, ?_⟩⟩
          have z1 : oc P Q x = 0 := fval_inj (f := f.toNat) (L := lowN f b) (by rw [fval_zero]; omega)
          have z2 : oc P Q y = 0 := fval_inj (f := f.toNat) (L := lowN f b) (by rw [fval_zero]; omega)
          unfold sc
          rw [z1, z2]
          simp
        · obtain ⟨a0, _, a2, a3, a4⟩ := rd_pos k (oN P Q x) (Nat.dvd_add dx dy) (by omega)
          refine ⟨a3, a4, ?_⟩
          rw [a2]
          have hz1 : ¬ (oc P Q x = 0 ∧ oc P Q y = 0) := fun h => hs (by rw [h.1, h.2, fval_zero])
          unfold sc
          cases hny : oN P Q y
          · rw [hny] at hn
            rw [hn] at a0 ⊢
            exact Or.inr (Or.inl ⟨a0, rfl, by simp; omega⟩)
          · rw [hny] at hn
            rw [hn] at a0 ⊢
            exact Or.inr (Or.inr ⟨a0, rfl, by simp; omega⟩)
      · rw [if_neg hn]
        have hn' : oN P Q x = oN P Q y := by
          revert hn
          cases oN P Q x <;> cases oN P Q y <;> simp
        rcases Nat.lt_trichotomy (fval f.toNat (lowN f b) (oc P Q x)) (fval f.toNat (lowN f b) (oc P Q y)) with hl | he | hl
        · rw [if_neg (Nat.ne_of_lt hl), if_pos hl]
          obtain ⟨a0, _, a2, a3, a4⟩ := rd_pos k (!oN P Q y) (Nat.dvd_sub dy dx) (by omega)
          refine ⟨a3, a4, ?_⟩
          rw [a2]
          have hc : oc P Q x < oc P Q y := Nat.lt_of_not_le fun h => by have := (fval_le (f := f.toNat) (L := lowN f b)).2 h; omega
          unfold sc
          rw [hn']
          cases hny : oN P Q y
          · rw [hny] at a0
            exact Or.inr (Or.inl ⟨a0, rfl, by simp; omega⟩)
          · rw [hny] at a0
            exact Or.inr (Or.inr ⟨a0, rfl, by simp; omega⟩)
        · rw [if_pos he]
          obtain ⟨a0, a1, a2⟩ := hz false
          refine ⟨a0, a1, Or.inl ⟨a2, ?_⟩⟩
          unfold sc
          rw [hn', fval_inj he]
        · rw [if_neg (fun h => absurd hl (by rw [h]; exact Nat.lt_irrefl _)), if_neg (Nat.not_lt.2 (Nat.le_of_lt hl))]
          obtain ⟨a0, _, a2, a3, a4⟩ := rd_pos k (oN P Q x) (Nat.dvd_sub dx dy) (by omega)
          refine ⟨a3, a4, ?_⟩
          rw [a2]
          have hc : oc P Q y < oc P Q x := Nat.lt_of_not_le fun h => by have := (fval_le (f := f.toNat) (L := lowN f b)).2 h; omega
          unfold sc
          rw [← hn']
          cases hnx : oN P Q x
          · rw [hnx] at a0
            exact Or.inr (Or.inr ⟨a0, rfl, by simp; omega⟩)
          · rw [hnx] at a0
            exact Or.inr (Or.inl ⟨a0, rfl, by simp; omega⟩)

theorem refCmpS_any {w e f P Q b x y : Int} (k : Kd w e f P Q b) (W : World) (x0 : 0 ≤ x) (x1 : x < 18446744073709551616) (y0 : 0 ≤ y) (y1 : y < 18446744073709551616) :
    Calls Try.prog 20 #[.int .i64 w, .int .u64 x, .int .u64 y] W fun r W' => r = .returned (.int .i64 (cmpB P Q x y)) ∧ Below W.heap.size W W' := by
  obtain ⟨X1, S1, o1, -, -⟩ := open_kd k x
  obtain ⟨X2, S2, o2, -, -⟩ := open_kd k y
  have HO1 := hide (fun W => refOpen_any x k W x0 x1 o1)
  have HO2 := hide (fun W => refOpen_any y k W y0 y1 o2)
  have HS := hide (fun W => refDif_any k W x0 x1 y0 y1)
  unfold cmpB
  by_cases a3 : oK P Q x = 3
  · rw [if_pos (Or.inl a3)]
    exact refCmp_n1 W HO1 HO2 (eq_t a3)
  by_cases b3 : oK P Q y = 3
  · rw [if_pos (Or.inr b3)]
    exact refCmp_n2 W HO1 HO2 (eq_f a3) (eq_t b3)
  rw [if_neg (by omega)]
  by_cases hi : oK P Q x = 2 ∧ oK P Q y = 2 ∧ oN P Q x = oN P Q y
  · obtain ⟨a2, b2, hn⟩ := hi
    have hs : sc P Q x = sc P Q y := by
      have c1 : (oc P Q x : Int) = top P Q := by rcases kind_oc k x with h | h | h | h <;> omega
      have c2 : (oc P Q y : Int) = top P Q := by rcases kind_oc k y with h | h | h | h <;> omega
      unfold sc
      rw [hn, c1, c2]
    rw [if_neg (by omega), if_pos hs]
    exact refCmp_ii W HO1 HO2 (eq_f a3) (eq_f b3) (eq_t a2) (eq_t b2) (by simp [hn])
  obtain ⟨v0, v1, hv⟩ := dif_sign k a3 b3 hi
  obtain ⟨X3, S3, o3, -, -⟩ := open_kd k (subB f P Q b x y)
  have HO3 := hide (fun W => refOpen_any _ k W v0 v1 o3)
  rcases hv with ⟨g, hc⟩ | ⟨g, hn3, hc⟩ | ⟨g, hn3, hc⟩
  · rw [if_neg (by omega), if_pos hc]
    by_cases a2 : oK P Q x = 2
    · by_cases b2 : oK P Q y = 2
      · exact refCmp_c0 W HO1 HO2 (eq_f a3) (eq_f b3) (eq_t a2) (eq_t b2) (by simp; exact fun h => hi ⟨a2, b2, h⟩) (eq_t g) HS HO3
      · exact refCmp_b0 W HO1 HO2 (eq_f a3) (eq_f b3) (eq_t a2) (eq_f b2) (eq_t g) HS HO3
    · exact refCmp_a0 W HO1 HO2 (eq_f a3) (eq_f b3) (eq_f a2) (eq_t g) HS HO3
  · rw [if_pos hc]
    rw [hn3] at HO3
    by_cases a2 : oK P Q x = 2
    · by_cases b2 : oK P Q y = 2
      · exact refCmp_cl W HO1 HO2 (eq_f a3) (eq_f b3) (eq_t a2) (eq_t b2) (by simp; exact fun h => hi ⟨a2, b2, h⟩) (eq_f g) HS HO3
      · exact refCmp_bl W HO1 HO2 (eq_f a3) (eq_f b3) (eq_t a2) (eq_f b2) (eq_f g) HS HO3
    · exact refCmp_al W HO1 HO2 (eq_f a3) (eq_f b3) (eq_f a2) (eq_f g) HS HO3
  · rw [if_neg (by omega), if_neg (by omega)]
    rw [hn3] at HO3
    by_cases a2 : oK P Q x = 2
    · by_cases b2 : oK P Q y = 2
      · exact refCmp_cg W HO1 HO2 (eq_f a3) (eq_f b3) (eq_t a2) (eq_t b2) (by simp; exact fun h => hi ⟨a2, b2, h⟩) (eq_f g) HS HO3
      · exact refCmp_bg W HO1 HO2 (eq_f a3) (eq_f b3) (eq_t a2) (eq_f b2) (eq_f g) HS HO3
    · exact refCmp_ag W HO1 HO2 (eq_f a3) (eq_f b3) (eq_f a2) (eq_f g) HS HO3

end Go.Proofs.Yticbhdgamblmbaa
namespace Go.Proofs.Yticbhdgamblmbaa
open Go.RowKit
open Go.Proofs.Yticbhdgamblmbaa.W

theorem rz_pos (f P Q b : Int) (M : Nat) : rz f P Q b (M : Int) = lid P Q (code f.toNat (lowN f b) M : Nat) := by
  unfold rz
  rw [if_neg (by omega), Int.toNat_natCast]
theorem rz_neg {w e f P Q b : Int} (k : Kd w e f P Q b) (M : Nat) : rz f P Q b (-(M : Int)) = -(lid P Q (code f.toNat (lowN f b) M : Nat)) := by
  have ht := top_pos k
  unfold rz
  by_cases h : M = 0
  · subst h
    rw [if_neg (by omega), show (-((0 : Nat) : Int)).toNat = 0 from rfl, code_zero]
    unfold lid
    rw [if_neg (show ¬ (Q - 1) * P ≤ ((0 : Nat) : Int) by unfold top at ht; omega)]
    rfl
  · rw [if_pos (by omega), show (-(-(M : Int))).toNat = M by omega]
theorem rz_mono {w e f P Q b : Int} (k : Kd w e f P Q b) {z z' : Int} (h : z ≤ z') : rz f P Q b z ≤ rz f P Q b z' := by
  by_cases h0 : z < 0
  · obtain ⟨m, rfl⟩ : ∃ m : Nat, z = -(m : Int) := ⟨(-z).toNat, by omega⟩
    rw [rz_neg k]
    have a := (lid_top k (code f.toNat (lowN f b) m)).1
    by_cases h1 : z' < 0
    · obtain ⟨m', rfl⟩ : ∃ m' : Nat, z' = -(m' : Int) := ⟨(-z').toNat, by omega⟩
      rw [rz_neg k]
      have := lid_mono P Q (Int.ofNat_le.2 (code_mono f.toNat (lowN f b) (show m' ≤ m by omega)))
      omega
    · obtain ⟨m', rfl⟩ : ∃ m' : Nat, z' = (m' : Int) := ⟨z'.toNat, by omega⟩
      rw [rz_pos]
      have c := (lid_top k (code f.toNat (lowN f b) m')).1
      omega
  · obtain ⟨m, rfl⟩ : ∃ m : Nat, z = (m : Int) := ⟨z.toNat, by omega⟩
    obtain ⟨m', rfl⟩ : ∃ m' : Nat, z' = (m' : Int) := ⟨z'.toNat, by omega⟩
    rw [rz_pos, rz_pos]
    exact lid_mono P Q (Int.ofNat_le.2 (code_mono f.toNat (lowN f b) (show m ≤ m' by omega)))
theorem rd_sc {w e f P Q b : Int} (k : Kd w e f P Q b) (n : Bool) (M : Nat) : oK P Q (rd f P Q b n M) ≠ 3 ∧ sc P Q (rd f P Q b n M) = rz f P Q b (if n then -(M : Int) else (M : Int)) := by
  obtain ⟨c0, c1⟩ := lid_top k (code f.toNat (lowN f b) M)
  obtain ⟨a1, -, -, a4⟩ := fl_kind k n c0 c1
  refine ⟨a1, ?_⟩
  unfold rd
  rw [a4]
  cases n
  · exact (rz_pos f P Q b M).symm
  · exact (rz_neg k M).symm
theorem sc_in {w e f P Q b : Int} (k : Kd w e f P Q b) {x : Int} (h : oK P Q x ≠ 3) : -top P Q ≤ sc P Q x ∧ sc P Q x ≤ top P Q ∧ (oK P Q x = 2 → sc P Q x = (if oN P Q x then -top P Q else top P Q)) ∧ (oK P Q x ≠ 2 → -top P Q < sc P Q x ∧ sc P Q x < top P Q) := by
  have ht := top_pos k
  unfold sc
  rcases kind_oc k x with ⟨h1, _⟩ | ⟨h1, h2, _⟩ | ⟨h1, h2, h3, _⟩ | ⟨h1, h2, _⟩
  · exact absurd h1 h
  · rw [h2]
    cases oN P Q x <;> simp <;> omega
  · cases oN P Q x <;> simp <;> omega
  · rw [h2]
    cases oN P Q x <;> simp <;> omega
theorem sv_mono {w e f P Q b : Int} (k : Kd w e f P Q b) {x y : Int} (hx : oK P Q x ≠ 3 ∧ oK P Q x ≠ 2) (hy : oK P Q y ≠ 3 ∧ oK P Q y ≠ 2) (h : sc P Q x ≤ sc P Q y) : sv f P Q b x ≤ sv f P Q b y := by
  obtain ⟨mx, -⟩ := oM_fin k hx
  obtain ⟨my, -⟩ := oM_fin k hy
  have e1 := fval_le (f := f.toNat) (L := lowN f b) (c := oc P Q x) (d := oc P Q y)
  have e2 := fval_le (f := f.toNat) (L := lowN f b) (c := oc P Q y) (d := oc P Q x)
  have z1 : oc P Q x = 0 → fval f.toNat (lowN f b) (oc P Q x) = 0 := fun h => by rw [h, fval_zero]
  have z2 : oc P Q y = 0 → fval f.toNat (lowN f b) (oc P Q y) = 0 := fun h => by rw [h, fval_zero]
  unfold sv
  unfold sc at h
  rw [mx, my]
  generalize fval f.toNat (lowN f b) (oc P Q x) = u at *
  generalize fval f.toNat (lowN f b) (oc P Q y) = v at *
  revert h
  cases oN P Q x <;> cases oN P Q y <;> simp <;> omega

/-- What the code of a sum is. -/
theorem add_sc {w e f P Q b : Int} (k : Kd w e f P Q b) {x y : Int} (hx : oK P Q x ≠ 3) (hy : oK P Q y ≠ 3) :
    (oK P Q x = 2 ∧ oK P Q y = 2 ∧ addB f P Q b x y = nanB f P Q) ∨ (oK P Q x = 2 ∧ oK P Q (addB f P Q b x y) ≠ 3 ∧ sc P Q (addB f P Q b x y) = sc P Q x) ∨
    (oK P Q x ≠ 2 ∧ oK P Q y = 2 ∧ oK P Q (addB f P Q b x y) ≠ 3 ∧ sc P Q (addB f P Q b x y) = sc P Q y) ∨
    (oK P Q x ≠ 2 ∧ oK P Q y ≠ 2 ∧ oK P Q (addB f P Q b x y) ≠ 3 ∧ sc P Q (addB f P Q b x y) = rz f P Q b (sv f P Q b x + sv f P Q b y)) := by
  have ht := top_pos k
  unfold addB addP
  by_cases hn : oK P Q x = 2 ∧ oK P Q y = 2 ∧ oN P Q x ≠ oN P Q y
  · rw [if_pos (Or.inr (Or.inr hn))]
    exact Or.inl ⟨hn.1, hn.2.1, rfl⟩
  rw [if_neg (by
    rintro (h | h | h)
    · exact hx h
    · exact hy h
    · exact hn h)]
  refine Or.inr ?_
  by_cases kx : oK P Q x = 2
  · rw [if_pos kx, put_inf k]
    obtain ⟨a1, -, -, a4⟩ := fl_kind k (oN P Q x) (Int.le_of_lt ht) (Int.le_refl _)
    refine Or.inl ⟨kx, a1, ?_⟩
    rw [a4, (sc_in k hx).2.2.1 kx]
  rw [if_neg kx]
  refine Or.inr ?_
  by_cases ky : oK P Q y = 2
  · rw [if_pos ky, put_inf k]
    obtain ⟨a1, -, -, a4⟩ := fl_kind k (oN P Q y) (Int.le_of_lt ht) (Int.le_refl _)
    refine Or.inl ⟨kx, ky, a1, ?_⟩
    rw [a4, (sc_in k hy).2.2.1 ky]
  rw [if_neg ky]
  refine Or.inr ⟨kx, ky, ?_⟩
  unfold sv
  generalize oM f P Q b x = u
  generalize oM f P Q b y = v
  by_cases he : oN P Q x = oN P Q y
  · rw [if_pos he]
    obtain ⟨a1, a2⟩ := rd_sc k (oN P Q x) (u + v)
    refine ⟨a1, ?_⟩
    rw [a2, ← he]
    congr 1
    cases oN P Q x <;> simp <;> omega
  rw [if_neg he]
  have hny : oN P Q y = !oN P Q x := by
    revert he
    cases oN P Q x <;> cases oN P Q y <;> simp
  rw [hny]
  rcases Nat.lt_trichotomy u v with hl | hl | hl
  · rw [if_neg (by omega), if_pos hl]
    obtain ⟨a1, a2⟩ := rd_sc k (!oN P Q x) (v - u)
    refine ⟨a1, ?_⟩
    rw [a2]
    congr 1
    cases oN P Q x <;> simp <;> omega
  · subst hl
    rw [if_pos rfl, ← rd_zero k]
    obtain ⟨a1, a2⟩ := rd_sc k false 0
    refine ⟨a1, ?_⟩
    rw [a2]
    congr 1
    cases oN P Q x <;> simp <;> omega
  · rw [if_neg (by omega), if_neg (by omega)]
    obtain ⟨a1, a2⟩ := rd_sc k (oN P Q x) (u - v)
    refine ⟨a1, ?_⟩
    rw [a2]
    congr 1
    cases oN P Q x <;> simp <;> omega

/-- A sum is a word. -/
theorem add_bits {w e f P Q b : Int} (k : Kd w e f P Q b) (x y : Int) : 0 ≤ addB f P Q b x y ∧ addB f P Q b x y < 18446744073709551616 := by
  unfold addB
  rcases add_form k (oN P Q x) (oN P Q y) (oK P Q x) (oK P Q y) (oM f P Q b x) (oM f P Q b y) with h | ⟨n, c, c0, c1, h⟩
  · rw [h]
    exact ⟨(nan_facts k).1, (nan_facts k).2.1⟩
  · rw [h]
    exact ⟨(fl_facts k n c0 c1).1, (fl_facts k n c0 c1).2.1⟩
/-- A sum never falls as an operand rises. -/
theorem order_add {w e f P Q b : Int} (k : Kd w e f P Q b) {x y c : Int} (h : ¬ 0 < cmpB P Q x y) : cmpB P Q (addB f P Q b x c) (addB f P Q b y c) ≠ 1 := by
  have ht := top_pos k
  obtain ⟨-, -, hN, -⟩ := nan_facts k
  unfold cmpB at h
  by_cases h3 : oK P Q x = 3 ∨ oK P Q y = 3
  · rw [if_pos h3] at h
    omega
  rw [if_neg h3] at h
  have hle : sc P Q x ≤ sc P Q y := by
    by_cases h1 : sc P Q x < sc P Q y
    · omega
    · rw [if_neg h1] at h
      by_cases h2 : sc P Q x = sc P Q y
      · omega
      · rw [if_neg h2] at h
        omega
  have hx : oK P Q x ≠ 3 := fun h => h3 (Or.inl h)
  have hy : oK P Q y ≠ 3 := fun h => h3 (Or.inr h)
  unfold cmpB
  by_cases hs : oK P Q (addB f P Q b x c) = 3 ∨ oK P Q (addB f P Q b y c) = 3
  · rw [if_pos hs]
    omega
  rw [if_neg hs]
  have key : sc P Q (addB f P Q b x c) ≤ sc P Q (addB f P Q b y c) := by
    have hc : oK P Q c ≠ 3 := fun h => hs (Or.inl (by rw [addB_comm, (add_nan h).1, hN]))
    obtain ⟨x1, x2, x3, x4⟩ := sc_in k hx
    obtain ⟨y1, y2, y3, y4⟩ := sc_in k hy
    obtain ⟨s1, s2, -, -⟩ := sc_in k (x := addB f P Q b x c) (fun h => hs (Or.inl h))
    obtain ⟨t1, t2, -, -⟩ := sc_in k (x := addB f P Q b y c) (fun h => hs (Or.inr h))
    rcases add_sc k hx hc with ⟨_, _, h1⟩ | ⟨a1, _, a2⟩ | ⟨a1, ac, _, a2⟩ | ⟨a1, ac, _, a2⟩
    · exact absurd (Or.inl (by rw [h1, hN])) hs
    · have e1 := x3 a1
      rcases add_sc k hy hc with ⟨_, _, h1⟩ | ⟨b1, _, b2⟩ | ⟨b1, bc, _, b2⟩ | ⟨b1, bc, _, b2⟩
      · exact absurd (Or.inr (by rw [h1, hN])) hs
      · omega
      · have e2 := y4 b1
        revert e1
        cases oN P Q x <;> simp <;> omega
      · have e2 := y4 b1
        revert e1
        cases oN P Q x <;> simp <;> omega
    · have e1 := x4 a1
      rcases add_sc k hy hc with ⟨_, _, h1⟩ | ⟨b1, _, b2⟩ | ⟨b1, bc, _, b2⟩ | ⟨b1, bc, _, b2⟩
      · exact absurd (Or.inr (by rw [h1, hN])) hs
      · have e2 := y3 b1
        revert e2
        cases oN P Q y <;> simp <;> omega
      · omega
      · exact absurd ac bc
    · have e1 := x4 a1
      rcases add_sc k hy hc with ⟨_, _, h1⟩ | ⟨b1, _, b2⟩ | ⟨b1, bc, _, b2⟩ | ⟨b1, bc, _, b2⟩
      · exact absurd (Or.inr (by rw [h1, hN])) hs
      · have e2 := y3 b1
        revert e2
        cases oN P Q y <;> simp <;> omega
      · exact absurd bc ac
      · rw [a2, b2]
        have := sv_mono (f := f) (b := b) k ⟨hx, a1⟩ ⟨hy, b1⟩ hle
        exact rz_mono k (by omega)
  split
  · omega
  · split
    · omega
    · omega

/-- Twice a float that isn't below another one isn't less than that by their numbers. -/
theorem twice_ge {w e f P Q b : Int} (k : Kd w e f P Q b) {x y : Int} (hx : oK P Q x = 1) (hy : oK P Q y = 1) (nx : oN P Q x = false) (ny : oN P Q y = false) (h : ¬ cmpB P Q (addB f P Q b x x) y < 0) : oM f P Q b y ≤ 2 * oM f P Q b x := by
  obtain ⟨mx, lx⟩ := oM_fin (x := x) k (by omega)
  obtain ⟨my, ly⟩ := oM_fin (x := y) k (by omega)
  rcases add_sc (x := x) (y := x) k (by omega) (by omega) with ⟨h1, _⟩ | ⟨h1, _⟩ | ⟨_, h1, _⟩ | ⟨_, _, h3, h4⟩
  · omega
  · omega
  · omega
  unfold cmpB at h
  rw [if_neg (by omega)] at h
  have hge : sc P Q y ≤ sc P Q (addB f P Q b x x) := by
    by_cases h1 : sc P Q (addB f P Q b x x) < sc P Q y
    · rw [if_pos h1] at h
      omega
    · omega
  obtain ⟨e', he⟩ := twice_rep f.toNat (lowN f b) (oc P Q x)
  have hsv : sv f P Q b x + sv f P Q b x = ((fval f.toNat (lowN f b) e' : Nat) : Int) := by
    unfold sv
    rw [nx, mx, ← he]
    simp
  rw [h4, hsv, rz_pos, fval_code] at hge
  have hsy : sc P Q y = (oc P Q y : Int) := by
    unfold sc
    rw [ny]
    rfl
  have hl : lid P Q (e' : Int) ≤ (e' : Int) := by
    unfold lid
    split <;> omega
  have : oc P Q y ≤ e' := by omega
  have := (fval_le (f := f.toNat) (L := lowN f b)).2 this
  rw [mx, my]
  omega

/-- The parts of a float of a sign and a code. -/
theorem fl_open {w e f P Q b : Int} (k : Kd w e f P Q b) (n : Bool) {c : Nat} (h : (c : Int) < top P Q) : oN P Q (fl f P Q n c) = n ∧ oK P Q (fl f P Q n c) ≠ 3 ∧ oK P Q (fl f P Q n c) ≠ 2 ∧ oM f P Q b (fl f P Q n c) = fval f.toNat (lowN f b) c ∧ 0 ≤ fl f P Q n c ∧ fl f P Q n c < 18446744073709551616 := by
  obtain ⟨a1, -, a3, -⟩ := fl_kind k n (c := (c : Int)) (by omega) (by omega)
  obtain ⟨b0, b1, b2, b3, -, -⟩ := fl_facts k n (c := (c : Int)) (by omega) (by omega)
  have k2 : oK P Q (fl f P Q n c) ≠ 2 := fun h' => by have := a3.1 h'; omega
  obtain ⟨m, -⟩ := oM_fin (x := fl f P Q n c) k ⟨a1, k2⟩
  refine ⟨b3, a1, k2, ?_, b0, b1⟩
  rw [m, show oc P Q (fl f P Q n c) = c by omega]

/-- The difference of two floats of which neither is more than twice the other, and the lesser one, are the greater one. -/
theorem close_add {w e f P Q b : Int} (k : Kd w e f P Q b) {x y : Int} (hx : oK P Q x = 1) (hy : oK P Q y = 1) (nx : oN P Q x = false) (ny : oN P Q y = false)
    (h1 : oM f P Q b y ≤ 2 * oM f P Q b x) (h2 : oM f P Q b x ≤ 2 * oM f P Q b y) :
    0 ≤ subB f P Q b x y ∧ subB f P Q b x y < 18446744073709551616 ∧ addB f P Q b (subB f P Q b x y) y = cutN f P Q x := by
  have ht := top_pos k
  obtain ⟨mx, lx⟩ := oM_fin (x := x) k (by omega)
  obtain ⟨my, ly⟩ := oM_fin (x := y) k (by omega)
  have px : 0 < oM f P Q b x := by
    rcases kind_oc k x with h | h | ⟨_, h, _, h'⟩ | h
    · omega
    · omega
    · rw [h']
      exact fval_pos (by omega)
    · omega
  rw [cut_fl k (by omega), nx]
  have goal : ∀ (n : Bool) (c : Nat), subB f P Q b x y = fl f P Q n c → (c : Int) < top P Q → (n = false → fval f.toNat (lowN f b) c + oM f P Q b y = oM f P Q b x) → (n = true → fval f.toNat (lowN f b) c + oM f P Q b x = oM f P Q b y) →
      0 ≤ subB f P Q b x y ∧ subB f P Q b x y < 18446744073709551616 ∧ addB f P Q b (subB f P Q b x y) y = fl f P Q false (oc P Q x) := by
    intro n c hs hc hp hm
    rw [hs]
    obtain ⟨a1, a2, a3, a4, a5, a6⟩ := fl_open (b := b) k n hc
    refine ⟨a5, a6, ?_⟩
    unfold addB addP
    rw [if_neg (by omega), if_neg a3, if_neg (by omega), a1, a4, ny]
    cases n
    · rw [if_pos rfl, hp rfl, mx, rd_val k _ lx]
    · have := hm rfl
      rw [if_neg (by simp), if_neg (by omega), if_pos (by omega), show oM f P Q b y - fval f.toNat (lowN f b) c = oM f P Q b x by omega, mx, rd_val k _ lx]
  have hsub : subB f P Q b x y = if oM f P Q b x = oM f P Q b y then put f P Q false 0 0 else if oM f P Q b x < oM f P Q b y then rd f P Q b true (oM f P Q b y - oM f P Q b x) else rd f P Q b false (oM f P Q b x - oM f P Q b y) := by
    unfold subB addP
    rw [if_neg (by omega), if_neg (by omega), if_neg (by omega), nx, ny, if_neg (by simp)]
    rfl
  by_cases he : oM f P Q b x = oM f P Q b y
  · rw [if_pos he, put_nought] at hsub
    exact goal false 0 hsub ht (fun _ => by rw [fval_zero]; omega) (fun h => by simp at h)
  · rw [if_neg he] at hsub
    by_cases hl : oM f P Q b x < oM f P Q b y
    · rw [if_pos hl] at hsub
      obtain ⟨c, hc⟩ := close_rep (f := f.toNat) (L := lowN f b) (c := oc P Q y) (d := oc P Q x) (by omega) (by omega)
      have hcl : c ≤ oc P Q y := (fval_le (f := f.toNat) (L := lowN f b)).1 (by omega)
      rw [my, mx, hc, rd_val k _ (by omega)] at hsub
      exact goal true c hsub (by omega) (fun h => by simp at h) (fun _ => by omega)
    · rw [if_neg hl] at hsub
      obtain ⟨c, hc⟩ := close_rep (f := f.toNat) (L := lowN f b) (c := oc P Q x) (d := oc P Q y) (by omega) (by omega)
      have hcl : c ≤ oc P Q x := (fval_le (f := f.toNat) (L := lowN f b)).1 (by omega)
      rw [my, mx, hc, rd_val k _ (by omega)] at hsub
      exact goal false c hsub (by omega) (fun _ => by omega) (fun h => by simp at h)

end Go.Proofs.Yticbhdgamblmbaa
