/- The reference's sums: the walks of parts, Add, Sub and Cmp. -/
import Derived.Test.YticbhdgamblmbaaPlusB
namespace Go.Proofs.Yticbhdgamblmbaa
open Go.RowKit

set_option maxRecDepth 100000 in
set_option maxHeartbeats 2000000 in
theorem refParts_n1 {w K1 X1 S1 K2 X2 S2 V : Int} {n1 n2 : Bool} (W : World) (a3 : (K1 == 3) = true) (HC : Hid (∀ W, Calls Try.prog 44 #[.int .i64 w] W fun r W' => r = .returned (.int .u64 V) ∧ Below W.heap.size W W')) :
    Calls Try.prog 24 #[.int .i64 w, .agg #[.bool n1, .int .i64 K1, .int .i64 X1, .int .u64 S1], .agg #[.bool n2, .int .i64 K2, .int .i64 X2, .int .u64 S2]] W fun r W' => r = .returned (.int .u64 V) ∧ Below W.heap.size W W' := by
  go_enter Try.func24, Try.ntmps24
  go_wp2_with fail
  have HB := hide (below2 W (.cells #[.bool n1, .int .i64 K1, .int .i64 X1, .int .u64 S1] 41) (.cells #[.bool n2, .int .i64 K2, .int .i64 X2, .int .u64 S2] 41))
  refine (unhide HC _).mono ?_
  rintro _ w1 ⟨rfl, hb⟩
  have HB := hide (bthen (unhide HB) hb)
  clear hb
  go_wp2_with fail
  go_ret
  exact ⟨rfl, unhide HB⟩
set_option maxRecDepth 100000 in
set_option maxHeartbeats 2000000 in
theorem refParts_n2 {w K1 X1 S1 K2 X2 S2 V : Int} {n1 n2 : Bool} (W : World) (a3 : (K1 == 3) = false) (b3 : (K2 == 3) = true) (HC : Hid (∀ W, Calls Try.prog 44 #[.int .i64 w] W fun r W' => r = .returned (.int .u64 V) ∧ Below W.heap.size W W')) :
    Calls Try.prog 24 #[.int .i64 w, .agg #[.bool n1, .int .i64 K1, .int .i64 X1, .int .u64 S1], .agg #[.bool n2, .int .i64 K2, .int .i64 X2, .int .u64 S2]] W fun r W' => r = .returned (.int .u64 V) ∧ Below W.heap.size W W' := by
  go_enter Try.func24, Try.ntmps24
  go_wp2_with fail
  have HB := hide (below2 W (.cells #[.bool n1, .int .i64 K1, .int .i64 X1, .int .u64 S1] 41) (.cells #[.bool n2, .int .i64 K2, .int .i64 X2, .int .u64 S2] 41))
  refine (unhide HC _).mono ?_
  rintro _ w1 ⟨rfl, hb⟩
  have HB := hide (bthen (unhide HB) hb)
  clear hb
  go_wp2_with fail
  go_ret
  exact ⟨rfl, unhide HB⟩
set_option maxRecDepth 100000 in
set_option maxHeartbeats 2000000 in
theorem refParts_n3 {w K1 X1 S1 K2 X2 S2 V : Int} {n1 n2 : Bool} (W : World) (a3 : (K1 == 3) = false) (b3 : (K2 == 3) = false) (a2 : (K1 == 2) = true) (b2 : (K2 == 2) = true) (hn : (n1 == n2) = false) (HC : Hid (∀ W, Calls Try.prog 44 #[.int .i64 w] W fun r W' => r = .returned (.int .u64 V) ∧ Below W.heap.size W W')) :
    Calls Try.prog 24 #[.int .i64 w, .agg #[.bool n1, .int .i64 K1, .int .i64 X1, .int .u64 S1], .agg #[.bool n2, .int .i64 K2, .int .i64 X2, .int .u64 S2]] W fun r W' => r = .returned (.int .u64 V) ∧ Below W.heap.size W W' := by
  go_enter Try.func24, Try.ntmps24
  go_wp2_with fail
  have HB := hide (below2 W (.cells #[.bool n1, .int .i64 K1, .int .i64 X1, .int .u64 S1] 41) (.cells #[.bool n2, .int .i64 K2, .int .i64 X2, .int .u64 S2] 41))
  refine (unhide HC _).mono ?_
  rintro _ w1 ⟨rfl, hb⟩
  have HB := hide (bthen (unhide HB) hb)
  clear hb
  go_wp2_with fail
  go_ret
  exact ⟨rfl, unhide HB⟩
set_option maxRecDepth 100000 in
set_option maxHeartbeats 2000000 in
theorem refParts_i3 {w K1 X1 S1 K2 X2 S2 V : Int} {n1 n2 : Bool} (W : World) (a3 : (K1 == 3) = false) (b3 : (K2 == 3) = false) (a2 : (K1 == 2) = true) (b2 : (K2 == 2) = true) (hn : (n1 == n2) = true) (HC : Hid (∀ W, Calls Try.prog 45 #[.int .i64 w, .bool n1] W fun r W' => r = .returned (.int .u64 V) ∧ Below W.heap.size W W')) :
    Calls Try.prog 24 #[.int .i64 w, .agg #[.bool n1, .int .i64 K1, .int .i64 X1, .int .u64 S1], .agg #[.bool n2, .int .i64 K2, .int .i64 X2, .int .u64 S2]] W fun r W' => r = .returned (.int .u64 V) ∧ Below W.heap.size W W' := by
  go_enter Try.func24, Try.ntmps24
  go_wp2_with fail
  have HB := hide (below2 W (.cells #[.bool n1, .int .i64 K1, .int .i64 X1, .int .u64 S1] 41) (.cells #[.bool n2, .int .i64 K2, .int .i64 X2, .int .u64 S2] 41))
  refine (unhide HC _).mono ?_
  rintro _ w1 ⟨rfl, hb⟩
  have HB := hide (bthen (unhide HB) hb)
  clear hb
  go_wp2_with fail
  go_ret
  exact ⟨rfl, unhide HB⟩
set_option maxRecDepth 100000 in
set_option maxHeartbeats 2000000 in
theorem refParts_i1 {w K1 X1 S1 K2 X2 S2 V : Int} {n1 n2 : Bool} (W : World) (a3 : (K1 == 3) = false) (b3 : (K2 == 3) = false) (a2 : (K1 == 2) = true) (b2 : (K2 == 2) = false) (HC : Hid (∀ W, Calls Try.prog 45 #[.int .i64 w, .bool n1] W fun r W' => r = .returned (.int .u64 V) ∧ Below W.heap.size W W')) :
    Calls Try.prog 24 #[.int .i64 w, .agg #[.bool n1, .int .i64 K1, .int .i64 X1, .int .u64 S1], .agg #[.bool n2, .int .i64 K2, .int .i64 X2, .int .u64 S2]] W fun r W' => r = .returned (.int .u64 V) ∧ Below W.heap.size W W' := by
  go_enter Try.func24, Try.ntmps24
  go_wp2_with fail
  have HB := hide (below2 W (.cells #[.bool n1, .int .i64 K1, .int .i64 X1, .int .u64 S1] 41) (.cells #[.bool n2, .int .i64 K2, .int .i64 X2, .int .u64 S2] 41))
  refine (unhide HC _).mono ?_
  rintro _ w1 ⟨rfl, hb⟩
  have HB := hide (bthen (unhide HB) hb)
  clear hb
  go_wp2_with fail
  go_ret
  exact ⟨rfl, unhide HB⟩
set_option maxRecDepth 100000 in
set_option maxHeartbeats 2000000 in
theorem refParts_i2 {w K1 X1 S1 K2 X2 S2 V : Int} {n1 n2 : Bool} (W : World) (a3 : (K1 == 3) = false) (b3 : (K2 == 3) = false) (a2 : (K1 == 2) = false) (b2 : (K2 == 2) = true) (HC : Hid (∀ W, Calls Try.prog 45 #[.int .i64 w, .bool n2] W fun r W' => r = .returned (.int .u64 V) ∧ Below W.heap.size W W')) :
    Calls Try.prog 24 #[.int .i64 w, .agg #[.bool n1, .int .i64 K1, .int .i64 X1, .int .u64 S1], .agg #[.bool n2, .int .i64 K2, .int .i64 X2, .int .u64 S2]] W fun r W' => r = .returned (.int .u64 V) ∧ Below W.heap.size W W' := by
  go_enter Try.func24, Try.ntmps24
  go_wp2_with fail
  have HB := hide (below2 W (.cells #[.bool n1, .int .i64 K1, .int .i64 X1, .int .u64 S1] 41) (.cells #[.bool n2, .int .i64 K2, .int .i64 X2, .int .u64 S2] 41))
  refine (unhide HC _).mono ?_
  rintro _ w1 ⟨rfl, hb⟩
  have HB := hide (bthen (unhide HB) hb)
  clear hb
  go_wp2_with fail
  go_ret
  exact ⟨rfl, unhide HB⟩
set_option maxRecDepth 100000 in
set_option maxHeartbeats 2000000 in
theorem refParts_ex {w K1 X1 S1 K2 X2 S2 V : Int} {n1 n2 : Bool} (W : World) (a3 : (K1 == 3) = false) (b3 : (K2 == 3) = false) (a2 : (K1 == 2) = false) (b2 : (K2 == 2) = false) (HC : Hid (∀ W, Calls Try.prog 46 #[.int .i64 w, .agg #[.bool n1, .int .i64 K1, .int .i64 X1, .int .u64 S1], .agg #[.bool n2, .int .i64 K2, .int .i64 X2, .int .u64 S2]] W fun r W' => r = .returned (.int .u64 V) ∧ Below W.heap.size W W')) :
    Calls Try.prog 24 #[.int .i64 w, .agg #[.bool n1, .int .i64 K1, .int .i64 X1, .int .u64 S1], .agg #[.bool n2, .int .i64 K2, .int .i64 X2, .int .u64 S2]] W fun r W' => r = .returned (.int .u64 V) ∧ Below W.heap.size W W' := by
  go_enter Try.func24, Try.ntmps24
  go_wp2_with fail
  have HB := hide (below2 W (.cells #[.bool n1, .int .i64 K1, .int .i64 X1, .int .u64 S1] 41) (.cells #[.bool n2, .int .i64 K2, .int .i64 X2, .int .u64 S2] 41))
  refine (unhide HC _).mono ?_
  rintro _ w1 ⟨rfl, hb⟩
  have HB := hide (bthen (unhide HB) hb)
  clear hb
  go_wp2_with fail
  go_ret
  exact ⟨rfl, unhide HB⟩
set_option maxRecDepth 100000 in
set_option maxHeartbeats 2000000 in
theorem refAdd_l {w x y K1 X1 S1 K2 X2 S2 V : Int} {n1 n2 : Bool} (W : World) (HO1 : Hid (∀ W, Calls Try.prog 21 #[.int .i64 w, .int .u64 x] W fun r W' => r = .returned (.agg #[.bool n1, .int .i64 K1, .int .i64 X1, .int .u64 S1]) ∧ Below W.heap.size W W')) (HO2 : Hid (∀ W, Calls Try.prog 21 #[.int .i64 w, .int .u64 y] W fun r W' => r = .returned (.agg #[.bool n2, .int .i64 K2, .int .i64 X2, .int .u64 S2]) ∧ Below W.heap.size W W')) (HP : Hid (∀ W, Calls Try.prog 24 #[.int .i64 w, .agg #[.bool n1, .int .i64 K1, .int .i64 X1, .int .u64 S1], .agg #[.bool n2, .int .i64 K2, .int .i64 X2, .int .u64 S2]] W fun r W' => r = .returned (.int .u64 V) ∧ Below W.heap.size W W')) :
    Calls Try.prog 12 #[.int .i64 w, .int .u64 x, .int .u64 y] W fun r W' => r = .returned (.int .u64 V) ∧ Below W.heap.size W W' := by
  go_enter Try.func12, Try.ntmps12
  go_wp2_with fail
  refine (unhide HO1 _).mono ?_
  rintro _ w1 ⟨rfl, hb1⟩
  go_wp2_with fail
  refine (unhide HO2 _).mono ?_
  rintro _ w2 ⟨rfl, hb2⟩
  go_wp2_with fail
  refine (unhide HP _).mono ?_
  rintro _ w3 ⟨rfl, hb3⟩
  go_wp2_with fail
  go_ret
  exact ⟨rfl, bthen (bthen hb1 hb2) hb3⟩
set_option maxRecDepth 100000 in
set_option maxHeartbeats 2000000 in
theorem refSub_l {w x y K1 X1 S1 K2 X2 S2 V : Int} {n1 n2 : Bool} (W : World) (HO1 : Hid (∀ W, Calls Try.prog 21 #[.int .i64 w, .int .u64 x] W fun r W' => r = .returned (.agg #[.bool n1, .int .i64 K1, .int .i64 X1, .int .u64 S1]) ∧ Below W.heap.size W W')) (HO2 : Hid (∀ W, Calls Try.prog 21 #[.int .i64 w, .int .u64 y] W fun r W' => r = .returned (.agg #[.bool n2, .int .i64 K2, .int .i64 X2, .int .u64 S2]) ∧ Below W.heap.size W W')) (HP : Hid (∀ W, Calls Try.prog 24 #[.int .i64 w, .agg #[.bool n1, .int .i64 K1, .int .i64 X1, .int .u64 S1], .agg #[.bool (!n2), .int .i64 K2, .int .i64 X2, .int .u64 S2]] W fun r W' => r = .returned (.int .u64 V) ∧ Below W.heap.size W W')) :
    Calls Try.prog 13 #[.int .i64 w, .int .u64 x, .int .u64 y] W fun r W' => r = .returned (.int .u64 V) ∧ Below W.heap.size W W' := by
  go_enter Try.func13, Try.ntmps13
  go_wp2_with fail
  refine (unhide HO2 _).mono ?_
  rintro _ w1 ⟨rfl, hb⟩
  go_wp2_with fail
  have HB := hide ((balloc hb (.cells #[.bool (!n2), .int .i64 K2, .int .i64 X2, .int .u64 S2] 41)).drew)
  clear hb
  have HA := hide ((at4_new w1 (.bool (!n2)) (.int .i64 K2) (.int .i64 X2) (.int .u64 S2) 41).below ((Below.refl _ _).drew))
  refine wp_region_held_drew (S := fun w' => w'.cell? ⟨w1.heap.size, 0, none⟩ = some (.bool (!n2)) ∧ w'.cell? ⟨w1.heap.size, 1, none⟩ = some (.int .i64 K2) ∧ w'.cell? ⟨w1.heap.size, 2, none⟩ = some (.int .i64 X2) ∧ w'.cell? ⟨w1.heap.size, 3, none⟩ = some (.int .u64 S2)) (by kernel_rfl) ?_ (fun hHeld => ?_)
  · (try dsimp only)
    exact unhide HA
  refine anyH_at #[false, false, false, false, false, false, false] (by kernel_rfl) ?_
  refine wpAnyH_take (i := 0) (oi := { dst := some 15, op := _, type := _, pos := _, after := _, guard := _ }) (v := ?vv0) rfl (by kernel_rfl) (by kernel_rfl) (by kernel_rfl) (fun _ _ _ h => h) (Or.inl ⟨by rfl, ?hy0⟩) (by assumption) ?rest0
  case hy0 => ((intro w hSw; (try dsimp only at hSw); go_simp) <;> with_reducible rfl)
  case rest0 =>
    (try simp only [Act.put, List.setIfInBounds_toArray, List.set_cons_zero, List.set_cons_succ])
    refine anyH_at #[true, false, false, false, false, false, false] (by kernel_rfl) ?_
    refine wpAnyH_take (i := 1) (oi := { dst := some 16, op := _, type := _, pos := _, after := _, guard := _ }) (v := ?vv1) rfl (by kernel_rfl) (by kernel_rfl) (by kernel_rfl) (fun _ _ _ h => h) (Or.inl ⟨by rfl, ?hy1⟩) (by assumption) ?rest1
    case hy1 => ((intro w hSw; (try dsimp only at hSw); go_simp) <;> with_reducible rfl)
    case rest1 =>
      (try simp only [Act.put, List.setIfInBounds_toArray, List.set_cons_zero, List.set_cons_succ])
      refine anyH_at #[true, true, false, false, false, false, false] (by kernel_rfl) ?_
      refine wpAnyH_take (i := 2) (oi := { dst := some 17, op := _, type := _, pos := _, after := _, guard := _ }) (v := ?vv2) rfl (by kernel_rfl) (by kernel_rfl) (by kernel_rfl) (fun _ _ _ h => h) (Or.inl ⟨by rfl, ?hy2⟩) (by assumption) ?rest2
      case hy2 => ((intro w hSw; (try dsimp only at hSw); go_simp) <;> with_reducible rfl)
      case rest2 =>
        (try simp only [Act.put, List.setIfInBounds_toArray, List.set_cons_zero, List.set_cons_succ])
        refine anyH_at #[true, true, true, false, false, false, false] (by kernel_rfl) ?_
        refine wpAnyH_take (i := 4) (oi := { dst := some 19, op := _, type := _, pos := _, after := _, guard := _ }) (v := ?vv4) rfl (by kernel_rfl) (by kernel_rfl) (by kernel_rfl) (fun _ _ _ h => h) (Or.inl ⟨by rfl, ?hy4⟩) (by assumption) ?rest4
        case hy4 => ((intro w hSw; (try dsimp only at hSw); go_simp) <;> with_reducible rfl)
        case rest4 =>
          (try simp only [Act.put, List.setIfInBounds_toArray, List.set_cons_zero, List.set_cons_succ])
          refine anyH_at #[true, true, true, false, true, false, false] (by kernel_rfl) ?_
          refine wpAnyH_ready (rs := [3]) (by kernel_rfl) (by simp) ?_
          refine AllReadyH.cons (o := { dst := some 18, op := _, type := _, pos := _, after := _, guard := _ }) rfl (fun Kk hKk => ?_) AllReadyH.nil
          go_simp
          refine (unhide HO1 _).mono ?_
          rintro _ w2 ⟨rfl, hbl⟩
          have HB := hide (bthen (unhide HB) hbl)
          have HA := hide ((unhide HA).below hbl)
          clear hbl
          (try go_wp2_with fail)
          refine hKk.out _ _ ?_ (fun hHeld => ?_)
          · (try dsimp only)
            exact unhide HA
          clear hKk Kk
          (try simp only [List.setIfInBounds_toArray, List.set_cons_zero, List.set_cons_succ])
          refine anyH_at #[true, true, true, true, true, false, false] (by kernel_rfl) ?_
          refine wpAnyH_ready (rs := [5]) (by kernel_rfl) (by simp) ?_
          refine AllReadyH.cons (o := { dst := some 20, op := _, type := _, pos := _, after := _, guard := _ }) rfl (fun Kk hKk => ?_) AllReadyH.nil
          go_simp
          refine (unhide HP _).mono ?_
          rintro _ w2 ⟨rfl, hbl⟩
          have HB := hide (bthen (unhide HB) hbl)
          have HA := hide ((unhide HA).below hbl)
          clear hbl
          (try go_wp2_with fail)
          refine hKk.out _ _ ?_ (fun hHeld => ?_)
          · (try dsimp only)
            exact unhide HA
          clear hKk Kk
          (try simp only [List.setIfInBounds_toArray, List.set_cons_zero, List.set_cons_succ])
          refine anyH_at #[true, true, true, true, true, true, false] (by kernel_rfl) ?_
          refine wpAnyH_take (i := 6) (oi := { dst := some 6, op := _, type := _, pos := _, after := _, guard := _ }) (v := ?vv6) rfl (by kernel_rfl) (by kernel_rfl) (by kernel_rfl) (fun _ _ _ h => h) (Or.inl ⟨by rfl, ?hy6⟩) (by assumption) ?rest6
          case hy6 => ((intro w hSw; (try dsimp only at hSw); go_simp) <;> with_reducible rfl)
          case rest6 =>
            (try simp only [Act.put, List.setIfInBounds_toArray, List.set_cons_zero, List.set_cons_succ])
            refine anyH_at #[true, true, true, true, true, true, true] (by kernel_rfl) ?_
            refine wpAnyH_done (by kernel_rfl) ?_ _
            go_wp2
            go_ret
            exact ⟨rfl, unhide HB⟩
set_option maxRecDepth 100000 in
set_option maxHeartbeats 2000000 in
theorem refCmp_n1 {w x y K1 X1 S1 K2 X2 S2 : Int} {n1 n2 : Bool} (W : World) (HO1 : Hid (∀ W, Calls Try.prog 21 #[.int .i64 w, .int .u64 x] W fun r W' => r = .returned (.agg #[.bool n1, .int .i64 K1, .int .i64 X1, .int .u64 S1]) ∧ Below W.heap.size W W')) (HO2 : Hid (∀ W, Calls Try.prog 21 #[.int .i64 w, .int .u64 y] W fun r W' => r = .returned (.agg #[.bool n2, .int .i64 K2, .int .i64 X2, .int .u64 S2]) ∧ Below W.heap.size W W')) (a3 : (K1 == 3) = true)  :
    Calls Try.prog 20 #[.int .i64 w, .int .u64 x, .int .u64 y] W fun r W' => r = .returned (.int .i64 2) ∧ Below W.heap.size W W' := by
  go_enter Try.func20, Try.ntmps20
  go_wp2_with fail
  refine (unhide HO1 _).mono ?_
  rintro _ w1 ⟨rfl, hb⟩
  have HB := hide (balloc hb (.cells #[.bool n1, .int .i64 K1, .int .i64 X1, .int .u64 S1] 41))
  have HA := hide (at4_new w1 (.bool n1) (.int .i64 K1) (.int .i64 X1) (.int .u64 S1) 41)
  clear hb
  go_wp2_with fail
  refine (unhide HO2 _).mono ?_
  rintro _ w2 ⟨rfl, hb⟩
  have HB := hide (balloc (bthen (unhide HB) hb) (.cells #[.bool n2, .int .i64 K2, .int .i64 X2, .int .u64 S2] 41))
  have HA := hide (((unhide HA).below hb).below (below1 _ (.cells #[.bool n2, .int .i64 K2, .int .i64 X2, .int .u64 S2] 41)))
  have HA2 := hide (at4_new w2 (.bool n2) (.int .i64 K2) (.int .i64 X2) (.int .u64 S2) 41)
  clear hb
  obtain ⟨c0, c1, -, -⟩ := unhide HA
  obtain ⟨d0, d1, -, -⟩ := unhide HA2
  go_wp2_with fail
  go_ret
  exact ⟨rfl, unhide HB⟩
set_option maxRecDepth 100000 in
set_option maxHeartbeats 2000000 in
theorem refCmp_n2 {w x y K1 X1 S1 K2 X2 S2 : Int} {n1 n2 : Bool} (W : World) (HO1 : Hid (∀ W, Calls Try.prog 21 #[.int .i64 w, .int .u64 x] W fun r W' => r = .returned (.agg #[.bool n1, .int .i64 K1, .int .i64 X1, .int .u64 S1]) ∧ Below W.heap.size W W')) (HO2 : Hid (∀ W, Calls Try.prog 21 #[.int .i64 w, .int .u64 y] W fun r W' => r = .returned (.agg #[.bool n2, .int .i64 K2, .int .i64 X2, .int .u64 S2]) ∧ Below W.heap.size W W')) (a3 : (K1 == 3) = false) (b3 : (K2 == 3) = true)  :
    Calls Try.prog 20 #[.int .i64 w, .int .u64 x, .int .u64 y] W fun r W' => r = .returned (.int .i64 2) ∧ Below W.heap.size W W' := by
  go_enter Try.func20, Try.ntmps20
  go_wp2_with fail
  refine (unhide HO1 _).mono ?_
  rintro _ w1 ⟨rfl, hb⟩
  have HB := hide (balloc hb (.cells #[.bool n1, .int .i64 K1, .int .i64 X1, .int .u64 S1] 41))
  have HA := hide (at4_new w1 (.bool n1) (.int .i64 K1) (.int .i64 X1) (.int .u64 S1) 41)
  clear hb
  go_wp2_with fail
  refine (unhide HO2 _).mono ?_
  rintro _ w2 ⟨rfl, hb⟩
  have HB := hide (balloc (bthen (unhide HB) hb) (.cells #[.bool n2, .int .i64 K2, .int .i64 X2, .int .u64 S2] 41))
  have HA := hide (((unhide HA).below hb).below (below1 _ (.cells #[.bool n2, .int .i64 K2, .int .i64 X2, .int .u64 S2] 41)))
  have HA2 := hide (at4_new w2 (.bool n2) (.int .i64 K2) (.int .i64 X2) (.int .u64 S2) 41)
  clear hb
  obtain ⟨c0, c1, -, -⟩ := unhide HA
  obtain ⟨d0, d1, -, -⟩ := unhide HA2
  go_wp2_with fail
  go_ret
  exact ⟨rfl, unhide HB⟩
set_option maxRecDepth 100000 in
set_option maxHeartbeats 2000000 in
theorem refCmp_ii {w x y K1 X1 S1 K2 X2 S2 : Int} {n1 n2 : Bool} (W : World) (HO1 : Hid (∀ W, Calls Try.prog 21 #[.int .i64 w, .int .u64 x] W fun r W' => r = .returned (.agg #[.bool n1, .int .i64 K1, .int .i64 X1, .int .u64 S1]) ∧ Below W.heap.size W W')) (HO2 : Hid (∀ W, Calls Try.prog 21 #[.int .i64 w, .int .u64 y] W fun r W' => r = .returned (.agg #[.bool n2, .int .i64 K2, .int .i64 X2, .int .u64 S2]) ∧ Below W.heap.size W W')) (a3 : (K1 == 3) = false) (b3 : (K2 == 3) = false) (a2 : (K1 == 2) = true) (b2 : (K2 == 2) = true) (hn : (n1 == n2) = true)  :
    Calls Try.prog 20 #[.int .i64 w, .int .u64 x, .int .u64 y] W fun r W' => r = .returned (.int .i64 0) ∧ Below W.heap.size W W' := by
  go_enter Try.func20, Try.ntmps20
  go_wp2_with fail
  refine (unhide HO1 _).mono ?_
  rintro _ w1 ⟨rfl, hb⟩
  have HB := hide (balloc hb (.cells #[.bool n1, .int .i64 K1, .int .i64 X1, .int .u64 S1] 41))
  have HA := hide (at4_new w1 (.bool n1) (.int .i64 K1) (.int .i64 X1) (.int .u64 S1) 41)
  clear hb
  go_wp2_with fail
  refine (unhide HO2 _).mono ?_
  rintro _ w2 ⟨rfl, hb⟩
  have HB := hide (balloc (bthen (unhide HB) hb) (.cells #[.bool n2, .int .i64 K2, .int .i64 X2, .int .u64 S2] 41))
  have HA := hide (((unhide HA).below hb).below (below1 _ (.cells #[.bool n2, .int .i64 K2, .int .i64 X2, .int .u64 S2] 41)))
  have HA2 := hide (at4_new w2 (.bool n2) (.int .i64 K2) (.int .i64 X2) (.int .u64 S2) 41)
  clear hb
  obtain ⟨c0, c1, -, -⟩ := unhide HA
  obtain ⟨d0, d1, -, -⟩ := unhide HA2
  go_wp2_with fail
  go_ret
  exact ⟨rfl, unhide HB⟩
set_option maxRecDepth 100000 in
set_option maxHeartbeats 2000000 in
theorem refCmp_a0 {w x y K1 X1 S1 K2 X2 S2 V K3 X3 S3 : Int} {n1 n2 n3 : Bool} (W : World) (HO1 : Hid (∀ W, Calls Try.prog 21 #[.int .i64 w, .int .u64 x] W fun r W' => r = .returned (.agg #[.bool n1, .int .i64 K1, .int .i64 X1, .int .u64 S1]) ∧ Below W.heap.size W W')) (HO2 : Hid (∀ W, Calls Try.prog 21 #[.int .i64 w, .int .u64 y] W fun r W' => r = .returned (.agg #[.bool n2, .int .i64 K2, .int .i64 X2, .int .u64 S2]) ∧ Below W.heap.size W W')) (a3 : (K1 == 3) = false) (b3 : (K2 == 3) = false) (a2 : (K1 == 2) = false) (k3 : (K3 == 0) = true) (HS : Hid (∀ W, Calls Try.prog 13 #[.int .i64 w, .int .u64 x, .int .u64 y] W fun r W' => r = .returned (.int .u64 V) ∧ Below W.heap.size W W')) (HO3 : Hid (∀ W, Calls Try.prog 21 #[.int .i64 w, .int .u64 V] W fun r W' => r = .returned (.agg #[.bool n3, .int .i64 K3, .int .i64 X3, .int .u64 S3]) ∧ Below W.heap.size W W')) :
    Calls Try.prog 20 #[.int .i64 w, .int .u64 x, .int .u64 y] W fun r W' => r = .returned (.int .i64 0) ∧ Below W.heap.size W W' := by
  go_enter Try.func20, Try.ntmps20
  go_wp2_with fail
  refine (unhide HO1 _).mono ?_
  rintro _ w1 ⟨rfl, hb⟩
  have HB := hide (balloc hb (.cells #[.bool n1, .int .i64 K1, .int .i64 X1, .int .u64 S1] 41))
  have HA := hide (at4_new w1 (.bool n1) (.int .i64 K1) (.int .i64 X1) (.int .u64 S1) 41)
  clear hb
  go_wp2_with fail
  refine (unhide HO2 _).mono ?_
  rintro _ w2 ⟨rfl, hb⟩
  have HB := hide (balloc (bthen (unhide HB) hb) (.cells #[.bool n2, .int .i64 K2, .int .i64 X2, .int .u64 S2] 41))
  have HA := hide (((unhide HA).below hb).below (below1 _ (.cells #[.bool n2, .int .i64 K2, .int .i64 X2, .int .u64 S2] 41)))
  have HA2 := hide (at4_new w2 (.bool n2) (.int .i64 K2) (.int .i64 X2) (.int .u64 S2) 41)
  clear hb
  obtain ⟨c0, c1, -, -⟩ := unhide HA
  obtain ⟨d0, d1, -, -⟩ := unhide HA2
  go_wp2_with fail
  refine (unhide HS _).mono ?_
  rintro _ w3 ⟨rfl, hb⟩
  have HB := hide (bthen (unhide HB) hb)
  clear hb
  go_wp2_with fail
  refine (unhide HO3 _).mono ?_
  rintro _ w4 ⟨rfl, hb⟩
  have HB := hide (balloc (bthen (unhide HB) hb) (.cells #[.bool n3, .int .i64 K3, .int .i64 X3, .int .u64 S3] 41))
  clear hb
  go_wp2_with fail
  go_ret
  exact ⟨rfl, unhide HB⟩
set_option maxRecDepth 100000 in
set_option maxHeartbeats 2000000 in
theorem refCmp_al {w x y K1 X1 S1 K2 X2 S2 V K3 X3 S3 : Int} {n1 n2 : Bool} (W : World) (HO1 : Hid (∀ W, Calls Try.prog 21 #[.int .i64 w, .int .u64 x] W fun r W' => r = .returned (.agg #[.bool n1, .int .i64 K1, .int .i64 X1, .int .u64 S1]) ∧ Below W.heap.size W W')) (HO2 : Hid (∀ W, Calls Try.prog 21 #[.int .i64 w, .int .u64 y] W fun r W' => r = .returned (.agg #[.bool n2, .int .i64 K2, .int .i64 X2, .int .u64 S2]) ∧ Below W.heap.size W W')) (a3 : (K1 == 3) = false) (b3 : (K2 == 3) = false) (a2 : (K1 == 2) = false) (k3 : (K3 == 0) = false) (HS : Hid (∀ W, Calls Try.prog 13 #[.int .i64 w, .int .u64 x, .int .u64 y] W fun r W' => r = .returned (.int .u64 V) ∧ Below W.heap.size W W')) (HO3 : Hid (∀ W, Calls Try.prog 21 #[.int .i64 w, .int .u64 V] W fun r W' => r = .returned (.agg #[.bool true, .int .i64 K3, .int .i64 X3, .int .u64 S3]) ∧ Below W.heap.size W W')) :
    Calls Try.prog 20 #[.int .i64 w, .int .u64 x, .int .u64 y] W fun r W' => r = .returned (.int .i64 (-1)) ∧ Below W.heap.size W W' := by
  go_enter Try.func20, Try.ntmps20
  go_wp2_with fail
  refine (unhide HO1 _).mono ?_
  rintro _ w1 ⟨rfl, hb⟩
  have HB := hide (balloc hb (.cells #[.bool n1, .int .i64 K1, .int .i64 X1, .int .u64 S1] 41))
  have HA := hide (at4_new w1 (.bool n1) (.int .i64 K1) (.int .i64 X1) (.int .u64 S1) 41)
  clear hb
  go_wp2_with fail
  refine (unhide HO2 _).mono ?_
  rintro _ w2 ⟨rfl, hb⟩
  have HB := hide (balloc (bthen (unhide HB) hb) (.cells #[.bool n2, .int .i64 K2, .int .i64 X2, .int .u64 S2] 41))
  have HA := hide (((unhide HA).below hb).below (below1 _ (.cells #[.bool n2, .int .i64 K2, .int .i64 X2, .int .u64 S2] 41)))
  have HA2 := hide (at4_new w2 (.bool n2) (.int .i64 K2) (.int .i64 X2) (.int .u64 S2) 41)
  clear hb
  obtain ⟨c0, c1, -, -⟩ := unhide HA
  obtain ⟨d0, d1, -, -⟩ := unhide HA2
  go_wp2_with fail
  refine (unhide HS _).mono ?_
  rintro _ w3 ⟨rfl, hb⟩
  have HB := hide (bthen (unhide HB) hb)
  clear hb
  go_wp2_with fail
  refine (unhide HO3 _).mono ?_
  rintro _ w4 ⟨rfl, hb⟩
  have HB := hide (balloc (bthen (unhide HB) hb) (.cells #[.bool true, .int .i64 K3, .int .i64 X3, .int .u64 S3] 41))
  clear hb
  go_wp2_with fail
  go_ret
  exact ⟨rfl, unhide HB⟩
set_option maxRecDepth 100000 in
set_option maxHeartbeats 2000000 in
theorem refCmp_ag {w x y K1 X1 S1 K2 X2 S2 V K3 X3 S3 : Int} {n1 n2 : Bool} (W : World) (HO1 : Hid (∀ W, Calls Try.prog 21 #[.int .i64 w, .int .u64 x] W fun r W' => r = .returned (.agg #[.bool n1, .int .i64 K1, .int .i64 X1, .int .u64 S1]) ∧ Below W.heap.size W W')) (HO2 : Hid (∀ W, Calls Try.prog 21 #[.int .i64 w, .int .u64 y] W fun r W' => r = .returned (.agg #[.bool n2, .int .i64 K2, .int .i64 X2, .int .u64 S2]) ∧ Below W.heap.size W W')) (a3 : (K1 == 3) = false) (b3 : (K2 == 3) = false) (a2 : (K1 == 2) = false) (k3 : (K3 == 0) = false) (HS : Hid (∀ W, Calls Try.prog 13 #[.int .i64 w, .int .u64 x, .int .u64 y] W fun r W' => r = .returned (.int .u64 V) ∧ Below W.heap.size W W')) (HO3 : Hid (∀ W, Calls Try.prog 21 #[.int .i64 w, .int .u64 V] W fun r W' => r = .returned (.agg #[.bool false, .int .i64 K3, .int .i64 X3, .int .u64 S3]) ∧ Below W.heap.size W W')) :
    Calls Try.prog 20 #[.int .i64 w, .int .u64 x, .int .u64 y] W fun r W' => r = .returned (.int .i64 1) ∧ Below W.heap.size W W' := by
  go_enter Try.func20, Try.ntmps20
  go_wp2_with fail
  refine (unhide HO1 _).mono ?_
  rintro _ w1 ⟨rfl, hb⟩
  have HB := hide (balloc hb (.cells #[.bool n1, .int .i64 K1, .int .i64 X1, .int .u64 S1] 41))
  have HA := hide (at4_new w1 (.bool n1) (.int .i64 K1) (.int .i64 X1) (.int .u64 S1) 41)
  clear hb
  go_wp2_with fail
  refine (unhide HO2 _).mono ?_
  rintro _ w2 ⟨rfl, hb⟩
  have HB := hide (balloc (bthen (unhide HB) hb) (.cells #[.bool n2, .int .i64 K2, .int .i64 X2, .int .u64 S2] 41))
  have HA := hide (((unhide HA).below hb).below (below1 _ (.cells #[.bool n2, .int .i64 K2, .int .i64 X2, .int .u64 S2] 41)))
  have HA2 := hide (at4_new w2 (.bool n2) (.int .i64 K2) (.int .i64 X2) (.int .u64 S2) 41)
  clear hb
  obtain ⟨c0, c1, -, -⟩ := unhide HA
  obtain ⟨d0, d1, -, -⟩ := unhide HA2
  go_wp2_with fail
  refine (unhide HS _).mono ?_
  rintro _ w3 ⟨rfl, hb⟩
  have HB := hide (bthen (unhide HB) hb)
  clear hb
  go_wp2_with fail
  refine (unhide HO3 _).mono ?_
  rintro _ w4 ⟨rfl, hb⟩
  have HB := hide (balloc (bthen (unhide HB) hb) (.cells #[.bool false, .int .i64 K3, .int .i64 X3, .int .u64 S3] 41))
  clear hb
  go_wp2_with fail
  go_ret
  exact ⟨rfl, unhide HB⟩
set_option maxRecDepth 100000 in
set_option maxHeartbeats 2000000 in
theorem refCmp_b0 {w x y K1 X1 S1 K2 X2 S2 V K3 X3 S3 : Int} {n1 n2 n3 : Bool} (W : World) (HO1 : Hid (∀ W, Calls Try.prog 21 #[.int .i64 w, .int .u64 x] W fun r W' => r = .returned (.agg #[.bool n1, .int .i64 K1, .int .i64 X1, .int .u64 S1]) ∧ Below W.heap.size W W')) (HO2 : Hid (∀ W, Calls Try.prog 21 #[.int .i64 w, .int .u64 y] W fun r W' => r = .returned (.agg #[.bool n2, .int .i64 K2, .int .i64 X2, .int .u64 S2]) ∧ Below W.heap.size W W')) (a3 : (K1 == 3) = false) (b3 : (K2 == 3) = false) (a2 : (K1 == 2) = true) (b2 : (K2 == 2) = false) (k3 : (K3 == 0) = true) (HS : Hid (∀ W, Calls Try.prog 13 #[.int .i64 w, .int .u64 x, .int .u64 y] W fun r W' => r = .returned (.int .u64 V) ∧ Below W.heap.size W W')) (HO3 : Hid (∀ W, Calls Try.prog 21 #[.int .i64 w, .int .u64 V] W fun r W' => r = .returned (.agg #[.bool n3, .int .i64 K3, .int .i64 X3, .int .u64 S3]) ∧ Below W.heap.size W W')) :
    Calls Try.prog 20 #[.int .i64 w, .int .u64 x, .int .u64 y] W fun r W' => r = .returned (.int .i64 0) ∧ Below W.heap.size W W' := by
  go_enter Try.func20, Try.ntmps20
  go_wp2_with fail
  refine (unhide HO1 _).mono ?_
  rintro _ w1 ⟨rfl, hb⟩
  have HB := hide (balloc hb (.cells #[.bool n1, .int .i64 K1, .int .i64 X1, .int .u64 S1] 41))
  have HA := hide (at4_new w1 (.bool n1) (.int .i64 K1) (.int .i64 X1) (.int .u64 S1) 41)
  clear hb
  go_wp2_with fail
  refine (unhide HO2 _).mono ?_
  rintro _ w2 ⟨rfl, hb⟩
  have HB := hide (balloc (bthen (unhide HB) hb) (.cells #[.bool n2, .int .i64 K2, .int .i64 X2, .int .u64 S2] 41))
  have HA := hide (((unhide HA).below hb).below (below1 _ (.cells #[.bool n2, .int .i64 K2, .int .i64 X2, .int .u64 S2] 41)))
  have HA2 := hide (at4_new w2 (.bool n2) (.int .i64 K2) (.int .i64 X2) (.int .u64 S2) 41)
  clear hb
  obtain ⟨c0, c1, -, -⟩ := unhide HA
  obtain ⟨d0, d1, -, -⟩ := unhide HA2
  go_wp2_with fail
  refine (unhide HS _).mono ?_
  rintro _ w3 ⟨rfl, hb⟩
  have HB := hide (bthen (unhide HB) hb)
  clear hb
  go_wp2_with fail
  refine (unhide HO3 _).mono ?_
  rintro _ w4 ⟨rfl, hb⟩
  have HB := hide (balloc (bthen (unhide HB) hb) (.cells #[.bool n3, .int .i64 K3, .int .i64 X3, .int .u64 S3] 41))
  clear hb
  go_wp2_with fail
  go_ret
  exact ⟨rfl, unhide HB⟩
set_option maxRecDepth 100000 in
set_option maxHeartbeats 2000000 in
theorem refCmp_bl {w x y K1 X1 S1 K2 X2 S2 V K3 X3 S3 : Int} {n1 n2 : Bool} (W : World) (HO1 : Hid (∀ W, Calls Try.prog 21 #[.int .i64 w, .int .u64 x] W fun r W' => r = .returned (.agg #[.bool n1, .int .i64 K1, .int .i64 X1, .int .u64 S1]) ∧ Below W.heap.size W W')) (HO2 : Hid (∀ W, Calls Try.prog 21 #[.int .i64 w, .int .u64 y] W fun r W' => r = .returned (.agg #[.bool n2, .int .i64 K2, .int .i64 X2, .int .u64 S2]) ∧ Below W.heap.size W W')) (a3 : (K1 == 3) = false) (b3 : (K2 == 3) = false) (a2 : (K1 == 2) = true) (b2 : (K2 == 2) = false) (k3 : (K3 == 0) = false) (HS : Hid (∀ W, Calls Try.prog 13 #[.int .i64 w, .int .u64 x, .int .u64 y] W fun r W' => r = .returned (.int .u64 V) ∧ Below W.heap.size W W')) (HO3 : Hid (∀ W, Calls Try.prog 21 #[.int .i64 w, .int .u64 V] W fun r W' => r = .returned (.agg #[.bool true, .int .i64 K3, .int .i64 X3, .int .u64 S3]) ∧ Below W.heap.size W W')) :
    Calls Try.prog 20 #[.int .i64 w, .int .u64 x, .int .u64 y] W fun r W' => r = .returned (.int .i64 (-1)) ∧ Below W.heap.size W W' := by
  go_enter Try.func20, Try.ntmps20
  go_wp2_with fail
  refine (unhide HO1 _).mono ?_
  rintro _ w1 ⟨rfl, hb⟩
  have HB := hide (balloc hb (.cells #[.bool n1, .int .i64 K1, .int .i64 X1, .int .u64 S1] 41))
  have HA := hide (at4_new w1 (.bool n1) (.int .i64 K1) (.int .i64 X1) (.int .u64 S1) 41)
  clear hb
  go_wp2_with fail
  refine (unhide HO2 _).mono ?_
  rintro _ w2 ⟨rfl, hb⟩
  have HB := hide (balloc (bthen (unhide HB) hb) (.cells #[.bool n2, .int .i64 K2, .int .i64 X2, .int .u64 S2] 41))
  have HA := hide (((unhide HA).below hb).below (below1 _ (.cells #[.bool n2, .int .i64 K2, .int .i64 X2, .int .u64 S2] 41)))
  have HA2 := hide (at4_new w2 (.bool n2) (.int .i64 K2) (.int .i64 X2) (.int .u64 S2) 41)
  clear hb
  obtain ⟨c0, c1, -, -⟩ := unhide HA
  obtain ⟨d0, d1, -, -⟩ := unhide HA2
  go_wp2_with fail
  refine (unhide HS _).mono ?_
  rintro _ w3 ⟨rfl, hb⟩
  have HB := hide (bthen (unhide HB) hb)
  clear hb
  go_wp2_with fail
  refine (unhide HO3 _).mono ?_
  rintro _ w4 ⟨rfl, hb⟩
  have HB := hide (balloc (bthen (unhide HB) hb) (.cells #[.bool true, .int .i64 K3, .int .i64 X3, .int .u64 S3] 41))
  clear hb
  go_wp2_with fail
  go_ret
  exact ⟨rfl, unhide HB⟩
set_option maxRecDepth 100000 in
set_option maxHeartbeats 2000000 in
theorem refCmp_bg {w x y K1 X1 S1 K2 X2 S2 V K3 X3 S3 : Int} {n1 n2 : Bool} (W : World) (HO1 : Hid (∀ W, Calls Try.prog 21 #[.int .i64 w, .int .u64 x] W fun r W' => r = .returned (.agg #[.bool n1, .int .i64 K1, .int .i64 X1, .int .u64 S1]) ∧ Below W.heap.size W W')) (HO2 : Hid (∀ W, Calls Try.prog 21 #[.int .i64 w, .int .u64 y] W fun r W' => r = .returned (.agg #[.bool n2, .int .i64 K2, .int .i64 X2, .int .u64 S2]) ∧ Below W.heap.size W W')) (a3 : (K1 == 3) = false) (b3 : (K2 == 3) = false) (a2 : (K1 == 2) = true) (b2 : (K2 == 2) = false) (k3 : (K3 == 0) = false) (HS : Hid (∀ W, Calls Try.prog 13 #[.int .i64 w, .int .u64 x, .int .u64 y] W fun r W' => r = .returned (.int .u64 V) ∧ Below W.heap.size W W')) (HO3 : Hid (∀ W, Calls Try.prog 21 #[.int .i64 w, .int .u64 V] W fun r W' => r = .returned (.agg #[.bool false, .int .i64 K3, .int .i64 X3, .int .u64 S3]) ∧ Below W.heap.size W W')) :
    Calls Try.prog 20 #[.int .i64 w, .int .u64 x, .int .u64 y] W fun r W' => r = .returned (.int .i64 1) ∧ Below W.heap.size W W' := by
  go_enter Try.func20, Try.ntmps20
  go_wp2_with fail
  refine (unhide HO1 _).mono ?_
  rintro _ w1 ⟨rfl, hb⟩
  have HB := hide (balloc hb (.cells #[.bool n1, .int .i64 K1, .int .i64 X1, .int .u64 S1] 41))
  have HA := hide (at4_new w1 (.bool n1) (.int .i64 K1) (.int .i64 X1) (.int .u64 S1) 41)
  clear hb
  go_wp2_with fail
  refine (unhide HO2 _).mono ?_
  rintro _ w2 ⟨rfl, hb⟩
  have HB := hide (balloc (bthen (unhide HB) hb) (.cells #[.bool n2, .int .i64 K2, .int .i64 X2, .int .u64 S2] 41))
  have HA := hide (((unhide HA).below hb).below (below1 _ (.cells #[.bool n2, .int .i64 K2, .int .i64 X2, .int .u64 S2] 41)))
  have HA2 := hide (at4_new w2 (.bool n2) (.int .i64 K2) (.int .i64 X2) (.int .u64 S2) 41)
  clear hb
  obtain ⟨c0, c1, -, -⟩ := unhide HA
  obtain ⟨d0, d1, -, -⟩ := unhide HA2
  go_wp2_with fail
  refine (unhide HS _).mono ?_
  rintro _ w3 ⟨rfl, hb⟩
  have HB := hide (bthen (unhide HB) hb)
  clear hb
  go_wp2_with fail
  refine (unhide HO3 _).mono ?_
  rintro _ w4 ⟨rfl, hb⟩
  have HB := hide (balloc (bthen (unhide HB) hb) (.cells #[.bool false, .int .i64 K3, .int .i64 X3, .int .u64 S3] 41))
  clear hb
  go_wp2_with fail
  go_ret
  exact ⟨rfl, unhide HB⟩
set_option maxRecDepth 100000 in
set_option maxHeartbeats 2000000 in
theorem refCmp_c0 {w x y K1 X1 S1 K2 X2 S2 V K3 X3 S3 : Int} {n1 n2 n3 : Bool} (W : World) (HO1 : Hid (∀ W, Calls Try.prog 21 #[.int .i64 w, .int .u64 x] W fun r W' => r = .returned (.agg #[.bool n1, .int .i64 K1, .int .i64 X1, .int .u64 S1]) ∧ Below W.heap.size W W')) (HO2 : Hid (∀ W, Calls Try.prog 21 #[.int .i64 w, .int .u64 y] W fun r W' => r = .returned (.agg #[.bool n2, .int .i64 K2, .int .i64 X2, .int .u64 S2]) ∧ Below W.heap.size W W')) (a3 : (K1 == 3) = false) (b3 : (K2 == 3) = false) (a2 : (K1 == 2) = true) (b2 : (K2 == 2) = true) (hn : (n1 == n2) = false) (k3 : (K3 == 0) = true) (HS : Hid (∀ W, Calls Try.prog 13 #[.int .i64 w, .int .u64 x, .int .u64 y] W fun r W' => r = .returned (.int .u64 V) ∧ Below W.heap.size W W')) (HO3 : Hid (∀ W, Calls Try.prog 21 #[.int .i64 w, .int .u64 V] W fun r W' => r = .returned (.agg #[.bool n3, .int .i64 K3, .int .i64 X3, .int .u64 S3]) ∧ Below W.heap.size W W')) :
    Calls Try.prog 20 #[.int .i64 w, .int .u64 x, .int .u64 y] W fun r W' => r = .returned (.int .i64 0) ∧ Below W.heap.size W W' := by
  go_enter Try.func20, Try.ntmps20
  go_wp2_with fail
  refine (unhide HO1 _).mono ?_
  rintro _ w1 ⟨rfl, hb⟩
  have HB := hide (balloc hb (.cells #[.bool n1, .int .i64 K1, .int .i64 X1, .int .u64 S1] 41))
  have HA := hide (at4_new w1 (.bool n1) (.int .i64 K1) (.int .i64 X1) (.int .u64 S1) 41)
  clear hb
  go_wp2_with fail
  refine (unhide HO2 _).mono ?_
  rintro _ w2 ⟨rfl, hb⟩
  have HB := hide (balloc (bthen (unhide HB) hb) (.cells #[.bool n2, .int .i64 K2, .int .i64 X2, .int .u64 S2] 41))
  have HA := hide (((unhide HA).below hb).below (below1 _ (.cells #[.bool n2, .int .i64 K2, .int .i64 X2, .int .u64 S2] 41)))
  have HA2 := hide (at4_new w2 (.bool n2) (.int .i64 K2) (.int .i64 X2) (.int .u64 S2) 41)
  clear hb
  obtain ⟨c0, c1, -, -⟩ := unhide HA
  obtain ⟨d0, d1, -, -⟩ := unhide HA2
  go_wp2_with fail
  refine (unhide HS _).mono ?_
  rintro _ w3 ⟨rfl, hb⟩
  have HB := hide (bthen (unhide HB) hb)
  clear hb
  go_wp2_with fail
  refine (unhide HO3 _).mono ?_
  rintro _ w4 ⟨rfl, hb⟩
  have HB := hide (balloc (bthen (unhide HB) hb) (.cells #[.bool n3, .int .i64 K3, .int .i64 X3, .int .u64 S3] 41))
  clear hb
  go_wp2_with fail
  go_ret
  exact ⟨rfl, unhide HB⟩
set_option maxRecDepth 100000 in
set_option maxHeartbeats 2000000 in
theorem refCmp_cl {w x y K1 X1 S1 K2 X2 S2 V K3 X3 S3 : Int} {n1 n2 : Bool} (W : World) (HO1 : Hid (∀ W, Calls Try.prog 21 #[.int .i64 w, .int .u64 x] W fun r W' => r = .returned (.agg #[.bool n1, .int .i64 K1, .int .i64 X1, .int .u64 S1]) ∧ Below W.heap.size W W')) (HO2 : Hid (∀ W, Calls Try.prog 21 #[.int .i64 w, .int .u64 y] W fun r W' => r = .returned (.agg #[.bool n2, .int .i64 K2, .int .i64 X2, .int .u64 S2]) ∧ Below W.heap.size W W')) (a3 : (K1 == 3) = false) (b3 : (K2 == 3) = false) (a2 : (K1 == 2) = true) (b2 : (K2 == 2) = true) (hn : (n1 == n2) = false) (k3 : (K3 == 0) = false) (HS : Hid (∀ W, Calls Try.prog 13 #[.int .i64 w, .int .u64 x, .int .u64 y] W fun r W' => r = .returned (.int .u64 V) ∧ Below W.heap.size W W')) (HO3 : Hid (∀ W, Calls Try.prog 21 #[.int .i64 w, .int .u64 V] W fun r W' => r = .returned (.agg #[.bool true, .int .i64 K3, .int .i64 X3, .int .u64 S3]) ∧ Below W.heap.size W W')) :
    Calls Try.prog 20 #[.int .i64 w, .int .u64 x, .int .u64 y] W fun r W' => r = .returned (.int .i64 (-1)) ∧ Below W.heap.size W W' := by
  go_enter Try.func20, Try.ntmps20
  go_wp2_with fail
  refine (unhide HO1 _).mono ?_
  rintro _ w1 ⟨rfl, hb⟩
  have HB := hide (balloc hb (.cells #[.bool n1, .int .i64 K1, .int .i64 X1, .int .u64 S1] 41))
  have HA := hide (at4_new w1 (.bool n1) (.int .i64 K1) (.int .i64 X1) (.int .u64 S1) 41)
  clear hb
  go_wp2_with fail
  refine (unhide HO2 _).mono ?_
  rintro _ w2 ⟨rfl, hb⟩
  have HB := hide (balloc (bthen (unhide HB) hb) (.cells #[.bool n2, .int .i64 K2, .int .i64 X2, .int .u64 S2] 41))
  have HA := hide (((unhide HA).below hb).below (below1 _ (.cells #[.bool n2, .int .i64 K2, .int .i64 X2, .int .u64 S2] 41)))
  have HA2 := hide (at4_new w2 (.bool n2) (.int .i64 K2) (.int .i64 X2) (.int .u64 S2) 41)
  clear hb
  obtain ⟨c0, c1, -, -⟩ := unhide HA
  obtain ⟨d0, d1, -, -⟩ := unhide HA2
  go_wp2_with fail
  refine (unhide HS _).mono ?_
  rintro _ w3 ⟨rfl, hb⟩
  have HB := hide (bthen (unhide HB) hb)
  clear hb
  go_wp2_with fail
  refine (unhide HO3 _).mono ?_
  rintro _ w4 ⟨rfl, hb⟩
  have HB := hide (balloc (bthen (unhide HB) hb) (.cells #[.bool true, .int .i64 K3, .int .i64 X3, .int .u64 S3] 41))
  clear hb
  go_wp2_with fail
  go_ret
  exact ⟨rfl, unhide HB⟩
set_option maxRecDepth 100000 in
set_option maxHeartbeats 2000000 in
theorem refCmp_cg {w x y K1 X1 S1 K2 X2 S2 V K3 X3 S3 : Int} {n1 n2 : Bool} (W : World) (HO1 : Hid (∀ W, Calls Try.prog 21 #[.int .i64 w, .int .u64 x] W fun r W' => r = .returned (.agg #[.bool n1, .int .i64 K1, .int .i64 X1, .int .u64 S1]) ∧ Below W.heap.size W W')) (HO2 : Hid (∀ W, Calls Try.prog 21 #[.int .i64 w, .int .u64 y] W fun r W' => r = .returned (.agg #[.bool n2, .int .i64 K2, .int .i64 X2, .int .u64 S2]) ∧ Below W.heap.size W W')) (a3 : (K1 == 3) = false) (b3 : (K2 == 3) = false) (a2 : (K1 == 2) = true) (b2 : (K2 == 2) = true) (hn : (n1 == n2) = false) (k3 : (K3 == 0) = false) (HS : Hid (∀ W, Calls Try.prog 13 #[.int .i64 w, .int .u64 x, .int .u64 y] W fun r W' => r = .returned (.int .u64 V) ∧ Below W.heap.size W W')) (HO3 : Hid (∀ W, Calls Try.prog 21 #[.int .i64 w, .int .u64 V] W fun r W' => r = .returned (.agg #[.bool false, .int .i64 K3, .int .i64 X3, .int .u64 S3]) ∧ Below W.heap.size W W')) :
    Calls Try.prog 20 #[.int .i64 w, .int .u64 x, .int .u64 y] W fun r W' => r = .returned (.int .i64 1) ∧ Below W.heap.size W W' := by
  go_enter Try.func20, Try.ntmps20
  go_wp2_with fail
  refine (unhide HO1 _).mono ?_
  rintro _ w1 ⟨rfl, hb⟩
  have HB := hide (balloc hb (.cells #[.bool n1, .int .i64 K1, .int .i64 X1, .int .u64 S1] 41))
  have HA := hide (at4_new w1 (.bool n1) (.int .i64 K1) (.int .i64 X1) (.int .u64 S1) 41)
  clear hb
  go_wp2_with fail
  refine (unhide HO2 _).mono ?_
  rintro _ w2 ⟨rfl, hb⟩
  have HB := hide (balloc (bthen (unhide HB) hb) (.cells #[.bool n2, .int .i64 K2, .int .i64 X2, .int .u64 S2] 41))
  have HA := hide (((unhide HA).below hb).below (below1 _ (.cells #[.bool n2, .int .i64 K2, .int .i64 X2, .int .u64 S2] 41)))
  have HA2 := hide (at4_new w2 (.bool n2) (.int .i64 K2) (.int .i64 X2) (.int .u64 S2) 41)
  clear hb
  obtain ⟨c0, c1, -, -⟩ := unhide HA
  obtain ⟨d0, d1, -, -⟩ := unhide HA2
  go_wp2_with fail
  refine (unhide HS _).mono ?_
  rintro _ w3 ⟨rfl, hb⟩
  have HB := hide (bthen (unhide HB) hb)
  clear hb
  go_wp2_with fail
  refine (unhide HO3 _).mono ?_
  rintro _ w4 ⟨rfl, hb⟩
  have HB := hide (balloc (bthen (unhide HB) hb) (.cells #[.bool false, .int .i64 K3, .int .i64 X3, .int .u64 S3] 41))
  clear hb
  go_wp2_with fail
  go_ret
  exact ⟨rfl, unhide HB⟩

end Go.Proofs.Yticbhdgamblmbaa
