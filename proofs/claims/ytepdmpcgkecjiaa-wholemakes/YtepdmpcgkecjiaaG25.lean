/- PlusB. -/
import Derived.Test.YtepdmpcgkecjiaaG22
namespace Go.Proofs.Ytepdmpcgkecjiaa
open Go.RowKit

theorem at4_new2a (w : World) (x y z u : Value) (t : TypeId) (o : Obj) : At4 w.heap.size x y z u ((w.alloc (.cells #[x, y, z, u] t)).alloc o) := by unfold At4; simp [go_sem]
theorem at4_new2b (w : World) (o : Obj) (x y z u : Value) (t : TypeId) : At4 (w.heap.size + 1) x y z u ((w.alloc o).alloc (.cells #[x, y, z, u] t)) := by unfold At4; simp [go_sem]
set_option maxRecDepth 100000 in
set_option maxHeartbeats 4000000 in
theorem finite_far {w K1 X1 S1 K2 X2 S2 D V : Int} {n1 n2 : Bool} (W : World) (hx : ¬ X1 < X2) (kd : IntKind.i64.wrap (X1 - X2) = D) (hd : 64 < D) (HN : Hid (∀ W, Calls Try.prog 60 #[.int .i64 w, .agg #[.bool n1, .int .i64 K1, .int .i64 X1, .int .u64 S1]] W fun r W' => r = .returned (.int .u64 V) ∧ Below W.heap.size W W')) :
    Calls Try.prog 76 #[.int .i64 w, .agg #[.bool n1, .int .i64 K1, .int .i64 X1, .int .u64 S1], .agg #[.bool n2, .int .i64 K2, .int .i64 X2, .int .u64 S2]] W fun r W' => r = .returned (.int .u64 V) ∧ Below W.heap.size W W' := by
  go_enter Try.func76, Try.ntmps76
  go_wp2_with fail
  have HB := hide (below2 W (.cells #[.bool n1, .int .i64 K1, .int .i64 X1, .int .u64 S1] 36) (.cells #[.bool n2, .int .i64 K2, .int .i64 X2, .int .u64 S2] 36))
  refine (unhide HN _).mono ?_
  rintro _ w1 ⟨rfl, hb⟩
  have HB := hide (bthen (unhide HB) hb)
  clear hb
  go_wp2_with fail
  go_ret
  exact ⟨rfl, unhide HB⟩
set_option maxRecDepth 100000 in
set_option maxHeartbeats 4000000 in
theorem finite_al {w K1 X1 S1 K2 X2 S2 D h1 l1 h2 l2 h3 l3 V : Int} {n1 n2 : Bool} (W : World) (hx : ¬ X1 < X2) (kd : IntKind.i64.wrap (X1 - X2) = D) (hd : ¬ 64 < D) (HO1 : Hid (∀ W, Calls Try.prog 63 #[.int .u64 S1] W fun r W' => r = .returned (.agg #[.int .u64 h1, .int .u64 l1]) ∧ Below W.heap.size W W')) (HL : Hid (∀ W, Calls Try.prog 84 #[.agg #[.int .u64 h1, .int .u64 l1], .int .i64 D] W fun r W' => r = .returned (.agg #[.int .u64 h2, .int .u64 l2]) ∧ Below W.heap.size W W')) (HO2 : Hid (∀ W, Calls Try.prog 63 #[.int .u64 S2] W fun r W' => r = .returned (.agg #[.int .u64 h3, .int .u64 l3]) ∧ Below W.heap.size W W')) (HA0 : Hid (∀ W, Calls Try.prog 87 #[.int .i64 w, .bool n1, .agg #[.int .u64 h2, .int .u64 l2], .bool n2, .agg #[.int .u64 h3, .int .u64 l3], .int .i64 X2] W fun r W' => r = .returned (.int .u64 V) ∧ Below W.heap.size W W')) :
    Calls Try.prog 76 #[.int .i64 w, .agg #[.bool n1, .int .i64 K1, .int .i64 X1, .int .u64 S1], .agg #[.bool n2, .int .i64 K2, .int .i64 X2, .int .u64 S2]] W fun r W' => r = .returned (.int .u64 V) ∧ Below W.heap.size W W' := by
  go_enter Try.func76, Try.ntmps76
  go_wp2_with fail
  have HB := hide ((below2 W (.cells #[.bool n1, .int .i64 K1, .int .i64 X1, .int .u64 S1] 36) (.cells #[.bool n2, .int .i64 K2, .int .i64 X2, .int .u64 S2] 36)).drew)
  have HA := hide ((at4_new2a W (.bool n1) (.int .i64 K1) (.int .i64 X1) (.int .u64 S1) 36 (.cells #[.bool n2, .int .i64 K2, .int .i64 X2, .int .u64 S2] 36)).below ((Below.refl _ _).drew))
  have HA2 := hide ((at4_new2b W (.cells #[.bool n1, .int .i64 K1, .int .i64 X1, .int .u64 S1] 36) (.bool n2) (.int .i64 K2) (.int .i64 X2) (.int .u64 S2) 36).below ((Below.refl _ _).drew))
  refine wp_region_held_drew (S := fun w' => (w'.cell? ⟨W.heap.size, 0, none⟩ = some (.bool n1) ∧ w'.cell? ⟨W.heap.size, 1, none⟩ = some (.int .i64 K1) ∧ w'.cell? ⟨W.heap.size, 2, none⟩ = some (.int .i64 X1) ∧ w'.cell? ⟨W.heap.size, 3, none⟩ = some (.int .u64 S1)) ∧ (w'.cell? ⟨W.heap.size + 1, 0, none⟩ = some (.bool n2) ∧ w'.cell? ⟨W.heap.size + 1, 1, none⟩ = some (.int .i64 K2) ∧ w'.cell? ⟨W.heap.size + 1, 2, none⟩ = some (.int .i64 X2) ∧ w'.cell? ⟨W.heap.size + 1, 3, none⟩ = some (.int .u64 S2))) (by kernel_rfl) ?_ (fun hHeld => ?_)
  · (try dsimp only)
    exact ⟨unhide HA, unhide HA2⟩
  refine anyH_at #[false, false, false, false, false, false, false, false, false, false, false, false, false, false, false, false, false] (by kernel_rfl) ?_
  refine wpAnyH_take (i := 0) (oi := { dst := some 25, op := _, type := _, pos := _, after := _, guard := _ }) (v := ?vv0) rfl (by kernel_rfl) (by kernel_rfl) (by kernel_rfl) (fun _ _ _ h => h) (Or.inl ⟨by rfl, ?hy0⟩) (by assumption) ?rest0
  case hy0 => ((intro w hSw; (try dsimp only at hSw); go_simp) <;> with_reducible rfl)
  case rest0 =>
    (try simp only [Act.put, List.setIfInBounds_toArray, List.set_cons_zero, List.set_cons_succ])
    refine anyH_at #[true, false, false, false, false, false, false, false, false, false, false, false, false, false, false, false, false] (by kernel_rfl) ?_
    refine wpAnyH_take (i := 1) (oi := { dst := some 26, op := _, type := _, pos := _, after := _, guard := _ }) (v := ?vv1) rfl (by kernel_rfl) (by kernel_rfl) (by kernel_rfl) (fun _ _ _ h => h) (Or.inl ⟨by rfl, ?hy1⟩) (by assumption) ?rest1
    case hy1 => ((intro w hSw; (try dsimp only at hSw); go_simp) <;> with_reducible rfl)
    case rest1 =>
      (try simp only [Act.put, List.setIfInBounds_toArray, List.set_cons_zero, List.set_cons_succ])
      refine anyH_at #[true, true, false, false, false, false, false, false, false, false, false, false, false, false, false, false, false] (by kernel_rfl) ?_
      refine wpAnyH_take (i := 2) (oi := { dst := some 27, op := _, type := _, pos := _, after := _, guard := _ }) (v := ?vv2) rfl (by kernel_rfl) (by kernel_rfl) (by kernel_rfl) (fun _ _ _ h => h) (Or.inl ⟨by rfl, ?hy2⟩) (by assumption) ?rest2
      case hy2 => ((intro w hSw; (try dsimp only at hSw); go_simp) <;> with_reducible rfl)
      case rest2 =>
        (try simp only [Act.put, List.setIfInBounds_toArray, List.set_cons_zero, List.set_cons_succ])
        refine anyH_at #[true, true, true, false, false, false, false, false, false, false, false, false, false, false, false, false, false] (by kernel_rfl) ?_
        refine wpAnyH_take (i := 3) (oi := { dst := some 28, op := _, type := _, pos := _, after := _, guard := _ }) (v := ?vv3) rfl (by kernel_rfl) (by kernel_rfl) (by kernel_rfl) (fun _ _ _ h => h) (Or.inl ⟨by rfl, ?hy3⟩) (by assumption) ?rest3
        case hy3 => ((intro w hSw; (try dsimp only at hSw); go_simp) <;> with_reducible rfl)
        case rest3 =>
          (try simp only [Act.put, List.setIfInBounds_toArray, List.set_cons_zero, List.set_cons_succ])
          refine anyH_at #[true, true, true, true, false, false, false, false, false, false, false, false, false, false, false, false, false] (by kernel_rfl) ?_
          refine wpAnyH_take (i := 4) (oi := { dst := some 29, op := _, type := _, pos := _, after := _, guard := _ }) (v := ?vv4) rfl (by kernel_rfl) (by kernel_rfl) (by kernel_rfl) (fun _ _ _ h => h) (Or.inl ⟨by rfl, ?hy4⟩) (by assumption) ?rest4
          case hy4 => ((intro w hSw; (try dsimp only at hSw); go_simp) <;> with_reducible rfl)
          case rest4 =>
            (try simp only [Act.put, List.setIfInBounds_toArray, List.set_cons_zero, List.set_cons_succ])
            refine anyH_at #[true, true, true, true, true, false, false, false, false, false, false, false, false, false, false, false, false] (by kernel_rfl) ?_
            refine wpAnyH_take (i := 6) (oi := { dst := some 31, op := _, type := _, pos := _, after := _, guard := _ }) (v := ?vv6) rfl (by kernel_rfl) (by kernel_rfl) (by kernel_rfl) (fun _ _ _ h => h) (Or.inl ⟨by rfl, ?hy6⟩) (by assumption) ?rest6
            case hy6 => ((intro w hSw; (try dsimp only at hSw); go_simp) <;> with_reducible rfl)
            case rest6 =>
              (try simp only [Act.put, List.setIfInBounds_toArray, List.set_cons_zero, List.set_cons_succ])
              refine anyH_at #[true, true, true, true, true, false, true, false, false, false, false, false, false, false, false, false, false] (by kernel_rfl) ?_
              refine wpAnyH_take (i := 8) (oi := { dst := some 33, op := _, type := _, pos := _, after := _, guard := _ }) (v := ?vv8) rfl (by kernel_rfl) (by kernel_rfl) (by kernel_rfl) (fun _ _ _ h => h) (Or.inl ⟨by rfl, ?hy8⟩) (by assumption) ?rest8
              case hy8 => ((intro w hSw; (try dsimp only at hSw); go_simp) <;> with_reducible rfl)
              case rest8 =>
                (try simp only [Act.put, List.setIfInBounds_toArray, List.set_cons_zero, List.set_cons_succ])
                refine anyH_at #[true, true, true, true, true, false, true, false, true, false, false, false, false, false, false, false, false] (by kernel_rfl) ?_
                refine wpAnyH_take (i := 9) (oi := { dst := some 34, op := _, type := _, pos := _, after := _, guard := _ }) (v := ?vv9) rfl (by kernel_rfl) (by kernel_rfl) (by kernel_rfl) (fun _ _ _ h => h) (Or.inl ⟨by rfl, ?hy9⟩) (by assumption) ?rest9
                case hy9 => ((intro w hSw; (try dsimp only at hSw); go_simp) <;> with_reducible rfl)
                case rest9 =>
                  (try simp only [Act.put, List.setIfInBounds_toArray, List.set_cons_zero, List.set_cons_succ])
                  refine anyH_at #[true, true, true, true, true, false, true, false, true, true, false, false, false, false, false, false, false] (by kernel_rfl) ?_
                  refine wpAnyH_take (i := 10) (oi := { dst := some 35, op := _, type := _, pos := _, after := _, guard := _ }) (v := ?vv10) rfl (by kernel_rfl) (by kernel_rfl) (by kernel_rfl) (fun _ _ _ h => h) (Or.inl ⟨by rfl, ?hy10⟩) (by assumption) ?rest10
                  case hy10 => ((intro w hSw; (try dsimp only at hSw); go_simp) <;> with_reducible rfl)
                  case rest10 =>
                    (try simp only [Act.put, List.setIfInBounds_toArray, List.set_cons_zero, List.set_cons_succ])
                    refine anyH_at #[true, true, true, true, true, false, true, false, true, true, true, false, false, false, false, false, false] (by kernel_rfl) ?_
                    refine wpAnyH_take (i := 11) (oi := { dst := some 36, op := _, type := _, pos := _, after := _, guard := _ }) (v := ?vv11) rfl (by kernel_rfl) (by kernel_rfl) (by kernel_rfl) (fun _ _ _ h => h) (Or.inl ⟨by rfl, ?hy11⟩) (by assumption) ?rest11
                    case hy11 => ((intro w hSw; (try dsimp only at hSw); go_simp) <;> with_reducible rfl)
                    case rest11 =>
                      (try simp only [Act.put, List.setIfInBounds_toArray, List.set_cons_zero, List.set_cons_succ])
                      refine anyH_at #[true, true, true, true, true, false, true, false, true, true, true, true, false, false, false, false, false] (by kernel_rfl) ?_
                      refine wpAnyH_take (i := 13) (oi := { dst := some 38, op := _, type := _, pos := _, after := _, guard := _ }) (v := ?vv13) rfl (by kernel_rfl) (by kernel_rfl) (by kernel_rfl) (fun _ _ _ h => h) (Or.inl ⟨by rfl, ?hy13⟩) (by assumption) ?rest13
                      case hy13 => ((intro w hSw; (try dsimp only at hSw); go_simp) <;> with_reducible rfl)
                      case rest13 =>
                        (try simp only [Act.put, List.setIfInBounds_toArray, List.set_cons_zero, List.set_cons_succ])
                        refine anyH_at #[true, true, true, true, true, false, true, false, true, true, true, true, false, true, false, false, false] (by kernel_rfl) ?_
                        refine wpAnyH_take (i := 14) (oi := { dst := some 39, op := _, type := _, pos := _, after := _, guard := _ }) (v := ?vv14) rfl (by kernel_rfl) (by kernel_rfl) (by kernel_rfl) (fun _ _ _ h => h) (Or.inl ⟨by rfl, ?hy14⟩) (by assumption) ?rest14
                        case hy14 => ((intro w hSw; (try dsimp only at hSw); go_simp) <;> with_reducible rfl)
                        case rest14 =>
                          (try simp only [Act.put, List.setIfInBounds_toArray, List.set_cons_zero, List.set_cons_succ])
                          refine anyH_at #[true, true, true, true, true, false, true, false, true, true, true, true, false, true, true, false, false] (by kernel_rfl) ?_
                          refine wpAnyH_ready (rs := [5]) (by kernel_rfl) (by simp) ?_
                          refine AllReadyH.cons (o := { dst := some 30, op := _, type := _, pos := _, after := _, guard := _ }) rfl (fun Kk hKk => ?_) AllReadyH.nil
                          go_simp
                          refine (unhide HO1 _).mono ?_
                          rintro _ w1 ⟨rfl, hbl⟩
                          have HB := hide (bthen (unhide HB) hbl)
                          have HA := hide ((unhide HA).below hbl)
                          have HA2 := hide ((unhide HA2).below hbl)
                          clear hbl
                          (try go_wp2_with fail)
                          refine hKk.out _ _ ?_ (fun hHeld => ?_)
                          · (try dsimp only)
                            exact ⟨unhide HA, unhide HA2⟩
                          clear hKk Kk
                          (try simp only [List.setIfInBounds_toArray, List.set_cons_zero, List.set_cons_succ])
                          refine anyH_at #[true, true, true, true, true, true, true, false, true, true, true, true, false, true, true, false, false] (by kernel_rfl) ?_
                          refine wpAnyH_ready (rs := [7]) (by kernel_rfl) (by simp) ?_
                          refine AllReadyH.cons (o := { dst := some 32, op := _, type := _, pos := _, after := _, guard := _ }) rfl (fun Kk hKk => ?_) AllReadyH.nil
                          go_simp
                          refine (unhide HL _).mono ?_
                          rintro _ w1 ⟨rfl, hbl⟩
                          have HB := hide (bthen (unhide HB) hbl)
                          have HA := hide ((unhide HA).below hbl)
                          have HA2 := hide ((unhide HA2).below hbl)
                          clear hbl
                          (try go_wp2_with fail)
                          refine hKk.out _ _ ?_ (fun hHeld => ?_)
                          · (try dsimp only)
                            exact ⟨unhide HA, unhide HA2⟩
                          clear hKk Kk
                          (try simp only [List.setIfInBounds_toArray, List.set_cons_zero, List.set_cons_succ])
                          refine anyH_at #[true, true, true, true, true, true, true, true, true, true, true, true, false, true, true, false, false] (by kernel_rfl) ?_
                          refine wpAnyH_ready (rs := [12]) (by kernel_rfl) (by simp) ?_
                          refine AllReadyH.cons (o := { dst := some 37, op := _, type := _, pos := _, after := _, guard := _ }) rfl (fun Kk hKk => ?_) AllReadyH.nil
                          go_simp
                          refine (unhide HO2 _).mono ?_
                          rintro _ w1 ⟨rfl, hbl⟩
                          have HB := hide (bthen (unhide HB) hbl)
                          have HA := hide ((unhide HA).below hbl)
                          have HA2 := hide ((unhide HA2).below hbl)
                          clear hbl
                          (try go_wp2_with fail)
                          refine hKk.out _ _ ?_ (fun hHeld => ?_)
                          · (try dsimp only)
                            exact ⟨unhide HA, unhide HA2⟩
                          clear hKk Kk
                          (try simp only [List.setIfInBounds_toArray, List.set_cons_zero, List.set_cons_succ])
                          refine anyH_at #[true, true, true, true, true, true, true, true, true, true, true, true, true, true, true, false, false] (by kernel_rfl) ?_
                          refine wpAnyH_ready (rs := [15]) (by kernel_rfl) (by simp) ?_
                          refine AllReadyH.cons (o := { dst := some 40, op := _, type := _, pos := _, after := _, guard := _ }) rfl (fun Kk hKk => ?_) AllReadyH.nil
                          go_simp
                          refine (unhide HA0 _).mono ?_
                          rintro _ w1 ⟨rfl, hbl⟩
                          have HB := hide (bthen (unhide HB) hbl)
                          have HA := hide ((unhide HA).below hbl)
                          have HA2 := hide ((unhide HA2).below hbl)
                          clear hbl
                          (try go_wp2_with fail)
                          refine hKk.out _ _ ?_ (fun hHeld => ?_)
                          · (try dsimp only)
                            exact ⟨unhide HA, unhide HA2⟩
                          clear hKk Kk
                          (try simp only [List.setIfInBounds_toArray, List.set_cons_zero, List.set_cons_succ])
                          refine anyH_at #[true, true, true, true, true, true, true, true, true, true, true, true, true, true, true, true, false] (by kernel_rfl) ?_
                          refine wpAnyH_take (i := 16) (oi := { dst := some 6, op := _, type := _, pos := _, after := _, guard := _ }) (v := ?vv16) rfl (by kernel_rfl) (by kernel_rfl) (by kernel_rfl) (fun _ _ _ h => h) (Or.inl ⟨by rfl, ?hy16⟩) (by assumption) ?rest16
                          case hy16 => ((intro w hSw; (try dsimp only at hSw); go_simp) <;> with_reducible rfl)
                          case rest16 =>
                            (try simp only [Act.put, List.setIfInBounds_toArray, List.set_cons_zero, List.set_cons_succ])
                            refine anyH_at #[true, true, true, true, true, true, true, true, true, true, true, true, true, true, true, true, true] (by kernel_rfl) ?_
                            refine wpAnyH_done (by kernel_rfl) ?_ _
                            go_wp2
                            go_ret
                            exact ⟨rfl, unhide HB⟩
set_option maxRecDepth 100000 in
set_option maxHeartbeats 4000000 in
theorem finite_far_s {w K1 X1 S1 K2 X2 S2 D V : Int} {n1 n2 : Bool} (W : World) (hx : X1 < X2) (kd : IntKind.i64.wrap (X2 - X1) = D) (hd : 64 < D) (HN : Hid (∀ W, Calls Try.prog 60 #[.int .i64 w, .agg #[.bool n2, .int .i64 K2, .int .i64 X2, .int .u64 S2]] W fun r W' => r = .returned (.int .u64 V) ∧ Below W.heap.size W W')) :
    Calls Try.prog 76 #[.int .i64 w, .agg #[.bool n1, .int .i64 K1, .int .i64 X1, .int .u64 S1], .agg #[.bool n2, .int .i64 K2, .int .i64 X2, .int .u64 S2]] W fun r W' => r = .returned (.int .u64 V) ∧ Below W.heap.size W W' := by
  go_enter Try.func76, Try.ntmps76
  go_wp2_with fail
  have HB := hide (below2 W (.cells #[.bool n2, .int .i64 K2, .int .i64 X2, .int .u64 S2] 36) (.cells #[.bool n1, .int .i64 K1, .int .i64 X1, .int .u64 S1] 36))
  refine (unhide HN _).mono ?_
  rintro _ w1 ⟨rfl, hb⟩
  have HB := hide (bthen (unhide HB) hb)
  clear hb
  go_wp2_with fail
  go_ret
  exact ⟨rfl, unhide HB⟩
set_option maxRecDepth 100000 in
set_option maxHeartbeats 4000000 in
theorem finite_al_s {w K1 X1 S1 K2 X2 S2 D h1 l1 h2 l2 h3 l3 V : Int} {n1 n2 : Bool} (W : World) (hx : X1 < X2) (kd : IntKind.i64.wrap (X2 - X1) = D) (hd : ¬ 64 < D) (HO1 : Hid (∀ W, Calls Try.prog 63 #[.int .u64 S2] W fun r W' => r = .returned (.agg #[.int .u64 h1, .int .u64 l1]) ∧ Below W.heap.size W W')) (HL : Hid (∀ W, Calls Try.prog 84 #[.agg #[.int .u64 h1, .int .u64 l1], .int .i64 D] W fun r W' => r = .returned (.agg #[.int .u64 h2, .int .u64 l2]) ∧ Below W.heap.size W W')) (HO2 : Hid (∀ W, Calls Try.prog 63 #[.int .u64 S1] W fun r W' => r = .returned (.agg #[.int .u64 h3, .int .u64 l3]) ∧ Below W.heap.size W W')) (HA0 : Hid (∀ W, Calls Try.prog 87 #[.int .i64 w, .bool n2, .agg #[.int .u64 h2, .int .u64 l2], .bool n1, .agg #[.int .u64 h3, .int .u64 l3], .int .i64 X1] W fun r W' => r = .returned (.int .u64 V) ∧ Below W.heap.size W W')) :
    Calls Try.prog 76 #[.int .i64 w, .agg #[.bool n1, .int .i64 K1, .int .i64 X1, .int .u64 S1], .agg #[.bool n2, .int .i64 K2, .int .i64 X2, .int .u64 S2]] W fun r W' => r = .returned (.int .u64 V) ∧ Below W.heap.size W W' := by
  go_enter Try.func76, Try.ntmps76
  go_wp2_with fail
  have HB := hide ((below2 W (.cells #[.bool n2, .int .i64 K2, .int .i64 X2, .int .u64 S2] 36) (.cells #[.bool n1, .int .i64 K1, .int .i64 X1, .int .u64 S1] 36)).drew)
  have HA := hide ((at4_new2a W (.bool n2) (.int .i64 K2) (.int .i64 X2) (.int .u64 S2) 36 (.cells #[.bool n1, .int .i64 K1, .int .i64 X1, .int .u64 S1] 36)).below ((Below.refl _ _).drew))
  have HA2 := hide ((at4_new2b W (.cells #[.bool n2, .int .i64 K2, .int .i64 X2, .int .u64 S2] 36) (.bool n1) (.int .i64 K1) (.int .i64 X1) (.int .u64 S1) 36).below ((Below.refl _ _).drew))
  refine wp_region_held_drew (S := fun w' => (w'.cell? ⟨W.heap.size, 0, none⟩ = some (.bool n2) ∧ w'.cell? ⟨W.heap.size, 1, none⟩ = some (.int .i64 K2) ∧ w'.cell? ⟨W.heap.size, 2, none⟩ = some (.int .i64 X2) ∧ w'.cell? ⟨W.heap.size, 3, none⟩ = some (.int .u64 S2)) ∧ (w'.cell? ⟨W.heap.size + 1, 0, none⟩ = some (.bool n1) ∧ w'.cell? ⟨W.heap.size + 1, 1, none⟩ = some (.int .i64 K1) ∧ w'.cell? ⟨W.heap.size + 1, 2, none⟩ = some (.int .i64 X1) ∧ w'.cell? ⟨W.heap.size + 1, 3, none⟩ = some (.int .u64 S1))) (by kernel_rfl) ?_ (fun hHeld => ?_)
  · (try dsimp only)
    exact ⟨unhide HA, unhide HA2⟩
  refine anyH_at #[false, false, false, false, false, false, false, false, false, false, false, false, false, false, false, false, false] (by kernel_rfl) ?_
  refine wpAnyH_take (i := 0) (oi := { dst := some 25, op := _, type := _, pos := _, after := _, guard := _ }) (v := ?vv0) rfl (by kernel_rfl) (by kernel_rfl) (by kernel_rfl) (fun _ _ _ h => h) (Or.inl ⟨by rfl, ?hy0⟩) (by assumption) ?rest0
  case hy0 => ((intro w hSw; (try dsimp only at hSw); go_simp) <;> with_reducible rfl)
  case rest0 =>
    (try simp only [Act.put, List.setIfInBounds_toArray, List.set_cons_zero, List.set_cons_succ])
    refine anyH_at #[true, false, false, false, false, false, false, false, false, false, false, false, false, false, false, false, false] (by kernel_rfl) ?_
    refine wpAnyH_take (i := 1) (oi := { dst := some 26, op := _, type := _, pos := _, after := _, guard := _ }) (v := ?vv1) rfl (by kernel_rfl) (by kernel_rfl) (by kernel_rfl) (fun _ _ _ h => h) (Or.inl ⟨by rfl, ?hy1⟩) (by assumption) ?rest1
    case hy1 => ((intro w hSw; (try dsimp only at hSw); go_simp) <;> with_reducible rfl)
    case rest1 =>
      (try simp only [Act.put, List.setIfInBounds_toArray, List.set_cons_zero, List.set_cons_succ])
      refine anyH_at #[true, true, false, false, false, false, false, false, false, false, false, false, false, false, false, false, false] (by kernel_rfl) ?_
      refine wpAnyH_take (i := 2) (oi := { dst := some 27, op := _, type := _, pos := _, after := _, guard := _ }) (v := ?vv2) rfl (by kernel_rfl) (by kernel_rfl) (by kernel_rfl) (fun _ _ _ h => h) (Or.inl ⟨by rfl, ?hy2⟩) (by assumption) ?rest2
      case hy2 => ((intro w hSw; (try dsimp only at hSw); go_simp) <;> with_reducible rfl)
      case rest2 =>
        (try simp only [Act.put, List.setIfInBounds_toArray, List.set_cons_zero, List.set_cons_succ])
        refine anyH_at #[true, true, true, false, false, false, false, false, false, false, false, false, false, false, false, false, false] (by kernel_rfl) ?_
        refine wpAnyH_take (i := 3) (oi := { dst := some 28, op := _, type := _, pos := _, after := _, guard := _ }) (v := ?vv3) rfl (by kernel_rfl) (by kernel_rfl) (by kernel_rfl) (fun _ _ _ h => h) (Or.inl ⟨by rfl, ?hy3⟩) (by assumption) ?rest3
        case hy3 => ((intro w hSw; (try dsimp only at hSw); go_simp) <;> with_reducible rfl)
        case rest3 =>
          (try simp only [Act.put, List.setIfInBounds_toArray, List.set_cons_zero, List.set_cons_succ])
          refine anyH_at #[true, true, true, true, false, false, false, false, false, false, false, false, false, false, false, false, false] (by kernel_rfl) ?_
          refine wpAnyH_take (i := 4) (oi := { dst := some 29, op := _, type := _, pos := _, after := _, guard := _ }) (v := ?vv4) rfl (by kernel_rfl) (by kernel_rfl) (by kernel_rfl) (fun _ _ _ h => h) (Or.inl ⟨by rfl, ?hy4⟩) (by assumption) ?rest4
          case hy4 => ((intro w hSw; (try dsimp only at hSw); go_simp) <;> with_reducible rfl)
          case rest4 =>
            (try simp only [Act.put, List.setIfInBounds_toArray, List.set_cons_zero, List.set_cons_succ])
            refine anyH_at #[true, true, true, true, true, false, false, false, false, false, false, false, false, false, false, false, false] (by kernel_rfl) ?_
            refine wpAnyH_take (i := 6) (oi := { dst := some 31, op := _, type := _, pos := _, after := _, guard := _ }) (v := ?vv6) rfl (by kernel_rfl) (by kernel_rfl) (by kernel_rfl) (fun _ _ _ h => h) (Or.inl ⟨by rfl, ?hy6⟩) (by assumption) ?rest6
            case hy6 => ((intro w hSw; (try dsimp only at hSw); go_simp) <;> with_reducible rfl)
            case rest6 =>
              (try simp only [Act.put, List.setIfInBounds_toArray, List.set_cons_zero, List.set_cons_succ])
              refine anyH_at #[true, true, true, true, true, false, true, false, false, false, false, false, false, false, false, false, false] (by kernel_rfl) ?_
              refine wpAnyH_take (i := 8) (oi := { dst := some 33, op := _, type := _, pos := _, after := _, guard := _ }) (v := ?vv8) rfl (by kernel_rfl) (by kernel_rfl) (by kernel_rfl) (fun _ _ _ h => h) (Or.inl ⟨by rfl, ?hy8⟩) (by assumption) ?rest8
              case hy8 => ((intro w hSw; (try dsimp only at hSw); go_simp) <;> with_reducible rfl)
              case rest8 =>
                (try simp only [Act.put, List.setIfInBounds_toArray, List.set_cons_zero, List.set_cons_succ])
                refine anyH_at #[true, true, true, true, true, false, true, false, true, false, false, false, false, false, false, false, false] (by kernel_rfl) ?_
                refine wpAnyH_take (i := 9) (oi := { dst := some 34, op := _, type := _, pos := _, after := _, guard := _ }) (v := ?vv9) rfl (by kernel_rfl) (by kernel_rfl) (by kernel_rfl) (fun _ _ _ h => h) (Or.inl ⟨by rfl, ?hy9⟩) (by assumption) ?rest9
                case hy9 => ((intro w hSw; (try dsimp only at hSw); go_simp) <;> with_reducible rfl)
                case rest9 =>
                  (try simp only [Act.put, List.setIfInBounds_toArray, List.set_cons_zero, List.set_cons_succ])
                  refine anyH_at #[true, true, true, true, true, false, true, false, true, true, false, false, false, false, false, false, false] (by kernel_rfl) ?_
                  refine wpAnyH_take (i := 10) (oi := { dst := some 35, op := _, type := _, pos := _, after := _, guard := _ }) (v := ?vv10) rfl (by kernel_rfl) (by kernel_rfl) (by kernel_rfl) (fun _ _ _ h => h) (Or.inl ⟨by rfl, ?hy10⟩) (by assumption) ?rest10
                  case hy10 => ((intro w hSw; (try dsimp only at hSw); go_simp) <;> with_reducible rfl)
                  case rest10 =>
                    (try simp only [Act.put, List.setIfInBounds_toArray, List.set_cons_zero, List.set_cons_succ])
                    refine anyH_at #[true, true, true, true, true, false, true, false, true, true, true, false, false, false, false, false, false] (by kernel_rfl) ?_
                    refine wpAnyH_take (i := 11) (oi := { dst := some 36, op := _, type := _, pos := _, after := _, guard := _ }) (v := ?vv11) rfl (by kernel_rfl) (by kernel_rfl) (by kernel_rfl) (fun _ _ _ h => h) (Or.inl ⟨by rfl, ?hy11⟩) (by assumption) ?rest11
                    case hy11 => ((intro w hSw; (try dsimp only at hSw); go_simp) <;> with_reducible rfl)
                    case rest11 =>
                      (try simp only [Act.put, List.setIfInBounds_toArray, List.set_cons_zero, List.set_cons_succ])
                      refine anyH_at #[true, true, true, true, true, false, true, false, true, true, true, true, false, false, false, false, false] (by kernel_rfl) ?_
                      refine wpAnyH_take (i := 13) (oi := { dst := some 38, op := _, type := _, pos := _, after := _, guard := _ }) (v := ?vv13) rfl (by kernel_rfl) (by kernel_rfl) (by kernel_rfl) (fun _ _ _ h => h) (Or.inl ⟨by rfl, ?hy13⟩) (by assumption) ?rest13
                      case hy13 => ((intro w hSw; (try dsimp only at hSw); go_simp) <;> with_reducible rfl)
                      case rest13 =>
                        (try simp only [Act.put, List.setIfInBounds_toArray, List.set_cons_zero, List.set_cons_succ])
                        refine anyH_at #[true, true, true, true, true, false, true, false, true, true, true, true, false, true, false, false, false] (by kernel_rfl) ?_
                        refine wpAnyH_take (i := 14) (oi := { dst := some 39, op := _, type := _, pos := _, after := _, guard := _ }) (v := ?vv14) rfl (by kernel_rfl) (by kernel_rfl) (by kernel_rfl) (fun _ _ _ h => h) (Or.inl ⟨by rfl, ?hy14⟩) (by assumption) ?rest14
                        case hy14 => ((intro w hSw; (try dsimp only at hSw); go_simp) <;> with_reducible rfl)
                        case rest14 =>
                          (try simp only [Act.put, List.setIfInBounds_toArray, List.set_cons_zero, List.set_cons_succ])
                          refine anyH_at #[true, true, true, true, true, false, true, false, true, true, true, true, false, true, true, false, false] (by kernel_rfl) ?_
                          refine wpAnyH_ready (rs := [5]) (by kernel_rfl) (by simp) ?_
                          refine AllReadyH.cons (o := { dst := some 30, op := _, type := _, pos := _, after := _, guard := _ }) rfl (fun Kk hKk => ?_) AllReadyH.nil
                          go_simp
                          refine (unhide HO1 _).mono ?_
                          rintro _ w1 ⟨rfl, hbl⟩
                          have HB := hide (bthen (unhide HB) hbl)
                          have HA := hide ((unhide HA).below hbl)
                          have HA2 := hide ((unhide HA2).below hbl)
                          clear hbl
                          (try go_wp2_with fail)
                          refine hKk.out _ _ ?_ (fun hHeld => ?_)
                          · (try dsimp only)
                            exact ⟨unhide HA, unhide HA2⟩
                          clear hKk Kk
                          (try simp only [List.setIfInBounds_toArray, List.set_cons_zero, List.set_cons_succ])
                          refine anyH_at #[true, true, true, true, true, true, true, false, true, true, true, true, false, true, true, false, false] (by kernel_rfl) ?_
                          refine wpAnyH_ready (rs := [7]) (by kernel_rfl) (by simp) ?_
                          refine AllReadyH.cons (o := { dst := some 32, op := _, type := _, pos := _, after := _, guard := _ }) rfl (fun Kk hKk => ?_) AllReadyH.nil
                          go_simp
                          refine (unhide HL _).mono ?_
                          rintro _ w1 ⟨rfl, hbl⟩
                          have HB := hide (bthen (unhide HB) hbl)
                          have HA := hide ((unhide HA).below hbl)
                          have HA2 := hide ((unhide HA2).below hbl)
                          clear hbl
                          (try go_wp2_with fail)
                          refine hKk.out _ _ ?_ (fun hHeld => ?_)
                          · (try dsimp only)
                            exact ⟨unhide HA, unhide HA2⟩
                          clear hKk Kk
                          (try simp only [List.setIfInBounds_toArray, List.set_cons_zero, List.set_cons_succ])
                          refine anyH_at #[true, true, true, true, true, true, true, true, true, true, true, true, false, true, true, false, false] (by kernel_rfl) ?_
                          refine wpAnyH_ready (rs := [12]) (by kernel_rfl) (by simp) ?_
                          refine AllReadyH.cons (o := { dst := some 37, op := _, type := _, pos := _, after := _, guard := _ }) rfl (fun Kk hKk => ?_) AllReadyH.nil
                          go_simp
                          refine (unhide HO2 _).mono ?_
                          rintro _ w1 ⟨rfl, hbl⟩
                          have HB := hide (bthen (unhide HB) hbl)
                          have HA := hide ((unhide HA).below hbl)
                          have HA2 := hide ((unhide HA2).below hbl)
                          clear hbl
                          (try go_wp2_with fail)
                          refine hKk.out _ _ ?_ (fun hHeld => ?_)
                          · (try dsimp only)
                            exact ⟨unhide HA, unhide HA2⟩
                          clear hKk Kk
                          (try simp only [List.setIfInBounds_toArray, List.set_cons_zero, List.set_cons_succ])
                          refine anyH_at #[true, true, true, true, true, true, true, true, true, true, true, true, true, true, true, false, false] (by kernel_rfl) ?_
                          refine wpAnyH_ready (rs := [15]) (by kernel_rfl) (by simp) ?_
                          refine AllReadyH.cons (o := { dst := some 40, op := _, type := _, pos := _, after := _, guard := _ }) rfl (fun Kk hKk => ?_) AllReadyH.nil
                          go_simp
                          refine (unhide HA0 _).mono ?_
                          rintro _ w1 ⟨rfl, hbl⟩
                          have HB := hide (bthen (unhide HB) hbl)
                          have HA := hide ((unhide HA).below hbl)
                          have HA2 := hide ((unhide HA2).below hbl)
                          clear hbl
                          (try go_wp2_with fail)
                          refine hKk.out _ _ ?_ (fun hHeld => ?_)
                          · (try dsimp only)
                            exact ⟨unhide HA, unhide HA2⟩
                          clear hKk Kk
                          (try simp only [List.setIfInBounds_toArray, List.set_cons_zero, List.set_cons_succ])
                          refine anyH_at #[true, true, true, true, true, true, true, true, true, true, true, true, true, true, true, true, false] (by kernel_rfl) ?_
                          refine wpAnyH_take (i := 16) (oi := { dst := some 6, op := _, type := _, pos := _, after := _, guard := _ }) (v := ?vv16) rfl (by kernel_rfl) (by kernel_rfl) (by kernel_rfl) (fun _ _ _ h => h) (Or.inl ⟨by rfl, ?hy16⟩) (by assumption) ?rest16
                          case hy16 => ((intro w hSw; (try dsimp only at hSw); go_simp) <;> with_reducible rfl)
                          case rest16 =>
                            (try simp only [Act.put, List.setIfInBounds_toArray, List.set_cons_zero, List.set_cons_succ])
                            refine anyH_at #[true, true, true, true, true, true, true, true, true, true, true, true, true, true, true, true, true] (by kernel_rfl) ?_
                            refine wpAnyH_done (by kernel_rfl) ?_ _
                            go_wp2
                            go_ret
                            exact ⟨rfl, unhide HB⟩
set_option maxRecDepth 100000 in
set_option maxHeartbeats 4000000 in
theorem plus_lt {w K1 X1 S1 K2 X2 S2 V : Int} {n1 n2 : Bool} (W : World) (hk : (K1 != K2) = true) (hl : K1 < K2) (HC : Hid (∀ W, Calls Try.prog 60 #[.int .i64 w, .agg #[.bool n2, .int .i64 K2, .int .i64 X2, .int .u64 S2]] W fun r W' => r = .returned (.int .u64 V) ∧ Below W.heap.size W W')) :
    Calls Try.prog 58 #[.int .i64 w, .agg #[.bool n1, .int .i64 K1, .int .i64 X1, .int .u64 S1], .agg #[.bool n2, .int .i64 K2, .int .i64 X2, .int .u64 S2]] W fun r W' => r = .returned (.int .u64 V) ∧ Below W.heap.size W W' := by
  go_enter Try.func58, Try.ntmps58
  go_wp2_with fail
  have HB := hide (below2 W (.cells #[.bool n2, .int .i64 K2, .int .i64 X2, .int .u64 S2] 36) (.cells #[.bool n2, .int .i64 K2, .int .i64 X2, .int .u64 S2] 36))
  refine (unhide HC _).mono ?_
  rintro _ w1 ⟨rfl, hb⟩
  have HB := hide (bthen (unhide HB) hb)
  clear hb
  go_wp2_with fail
  go_ret
  exact ⟨rfl, unhide HB⟩
set_option maxRecDepth 100000 in
set_option maxHeartbeats 4000000 in
theorem plus_ge {w K1 X1 S1 K2 X2 S2 V : Int} {n1 n2 : Bool} (W : World) (hk : (K1 != K2) = true) (hl : ¬ K1 < K2) (HC : Hid (∀ W, Calls Try.prog 60 #[.int .i64 w, .agg #[.bool n1, .int .i64 K1, .int .i64 X1, .int .u64 S1]] W fun r W' => r = .returned (.int .u64 V) ∧ Below W.heap.size W W')) :
    Calls Try.prog 58 #[.int .i64 w, .agg #[.bool n1, .int .i64 K1, .int .i64 X1, .int .u64 S1], .agg #[.bool n2, .int .i64 K2, .int .i64 X2, .int .u64 S2]] W fun r W' => r = .returned (.int .u64 V) ∧ Below W.heap.size W W' := by
  go_enter Try.func58, Try.ntmps58
  go_wp2_with fail
  have HB := hide (below2 W (.cells #[.bool n1, .int .i64 K1, .int .i64 X1, .int .u64 S1] 36) (.cells #[.bool n2, .int .i64 K2, .int .i64 X2, .int .u64 S2] 36))
  refine (unhide HC _).mono ?_
  rintro _ w1 ⟨rfl, hb⟩
  have HB := hide (bthen (unhide HB) hb)
  clear hb
  go_wp2_with fail
  go_ret
  exact ⟨rfl, unhide HB⟩
set_option maxRecDepth 100000 in
set_option maxHeartbeats 4000000 in
theorem plus_zt {w K1 X1 S1 K2 X2 S2 V : Int} {n2 : Bool} (W : World) (hk : (K1 != K2) = false) (k0 : (K1 == 0) = true) (HC : Hid (∀ W, Calls Try.prog 74 #[.int .i64 w, .bool n2] W fun r W' => r = .returned (.int .u64 V) ∧ Below W.heap.size W W')) :
    Calls Try.prog 58 #[.int .i64 w, .agg #[.bool true, .int .i64 K1, .int .i64 X1, .int .u64 S1], .agg #[.bool n2, .int .i64 K2, .int .i64 X2, .int .u64 S2]] W fun r W' => r = .returned (.int .u64 V) ∧ Below W.heap.size W W' := by
  go_enter Try.func58, Try.ntmps58
  go_wp2_with fail
  have HB := hide (below2 W (.cells #[.bool true, .int .i64 K1, .int .i64 X1, .int .u64 S1] 36) (.cells #[.bool n2, .int .i64 K2, .int .i64 X2, .int .u64 S2] 36))
  refine (unhide HC _).mono ?_
  rintro _ w1 ⟨rfl, hb⟩
  have HB := hide (bthen (unhide HB) hb)
  clear hb
  go_wp2_with fail
  go_ret
  exact ⟨rfl, unhide HB⟩
set_option maxRecDepth 100000 in
set_option maxHeartbeats 4000000 in
theorem plus_zf {w K1 X1 S1 K2 X2 S2 V : Int} {n2 : Bool} (W : World) (hk : (K1 != K2) = false) (k0 : (K1 == 0) = true) (HC : Hid (∀ W, Calls Try.prog 74 #[.int .i64 w, .bool false] W fun r W' => r = .returned (.int .u64 V) ∧ Below W.heap.size W W')) :
    Calls Try.prog 58 #[.int .i64 w, .agg #[.bool false, .int .i64 K1, .int .i64 X1, .int .u64 S1], .agg #[.bool n2, .int .i64 K2, .int .i64 X2, .int .u64 S2]] W fun r W' => r = .returned (.int .u64 V) ∧ Below W.heap.size W W' := by
  go_enter Try.func58, Try.ntmps58
  go_wp2_with fail
  have HB := hide (below2 W (.cells #[.bool false, .int .i64 K1, .int .i64 X1, .int .u64 S1] 36) (.cells #[.bool n2, .int .i64 K2, .int .i64 X2, .int .u64 S2] 36))
  refine (unhide HC _).mono ?_
  rintro _ w1 ⟨rfl, hb⟩
  have HB := hide (bthen (unhide HB) hb)
  clear hb
  go_wp2_with fail
  go_ret
  exact ⟨rfl, unhide HB⟩
set_option maxRecDepth 100000 in
set_option maxHeartbeats 4000000 in
theorem plus_is {w K1 X1 S1 K2 X2 S2 V : Int} {n1 n2 : Bool} (W : World) (hk : (K1 != K2) = false) (k0 : (K1 == 0) = false) (k2 : (K1 == 2) = true) (hn : (n1 == n2) = true) (HC : Hid (∀ W, Calls Try.prog 75 #[.int .i64 w, .bool n1] W fun r W' => r = .returned (.int .u64 V) ∧ Below W.heap.size W W')) :
    Calls Try.prog 58 #[.int .i64 w, .agg #[.bool n1, .int .i64 K1, .int .i64 X1, .int .u64 S1], .agg #[.bool n2, .int .i64 K2, .int .i64 X2, .int .u64 S2]] W fun r W' => r = .returned (.int .u64 V) ∧ Below W.heap.size W W' := by
  go_enter Try.func58, Try.ntmps58
  go_wp2_with fail
  have HB := hide (below2 W (.cells #[.bool n1, .int .i64 K1, .int .i64 X1, .int .u64 S1] 36) (.cells #[.bool n2, .int .i64 K2, .int .i64 X2, .int .u64 S2] 36))
  refine (unhide HC _).mono ?_
  rintro _ w1 ⟨rfl, hb⟩
  have HB := hide (bthen (unhide HB) hb)
  clear hb
  go_wp2_with fail
  go_ret
  exact ⟨rfl, unhide HB⟩
set_option maxRecDepth 100000 in
set_option maxHeartbeats 4000000 in
theorem plus_id {w K1 X1 S1 K2 X2 S2 V : Int} {n1 n2 : Bool} (W : World) (hk : (K1 != K2) = false) (k0 : (K1 == 0) = false) (k2 : (K1 == 2) = true) (hn : (n1 == n2) = false) (HC : Hid (∀ W, Calls Try.prog 17 #[.int .i64 w] W fun r W' => r = .returned (.int .u64 V) ∧ Below W.heap.size W W')) :
    Calls Try.prog 58 #[.int .i64 w, .agg #[.bool n1, .int .i64 K1, .int .i64 X1, .int .u64 S1], .agg #[.bool n2, .int .i64 K2, .int .i64 X2, .int .u64 S2]] W fun r W' => r = .returned (.int .u64 V) ∧ Below W.heap.size W W' := by
  go_enter Try.func58, Try.ntmps58
  go_wp2_with fail
  have HB := hide (below2 W (.cells #[.bool n1, .int .i64 K1, .int .i64 X1, .int .u64 S1] 36) (.cells #[.bool n2, .int .i64 K2, .int .i64 X2, .int .u64 S2] 36))
  refine (unhide HC _).mono ?_
  rintro _ w1 ⟨rfl, hb⟩
  have HB := hide (bthen (unhide HB) hb)
  clear hb
  go_wp2_with fail
  go_ret
  exact ⟨rfl, unhide HB⟩
set_option maxRecDepth 100000 in
set_option maxHeartbeats 4000000 in
theorem plus_fi {w K1 X1 S1 K2 X2 S2 V : Int} {n1 n2 : Bool} (W : World) (hk : (K1 != K2) = false) (k0 : (K1 == 0) = false) (k2 : (K1 == 2) = false) (k1 : (K1 == 1) = true) (HC : Hid (∀ W, Calls Try.prog 76 #[.int .i64 w, .agg #[.bool n1, .int .i64 K1, .int .i64 X1, .int .u64 S1], .agg #[.bool n2, .int .i64 K2, .int .i64 X2, .int .u64 S2]] W fun r W' => r = .returned (.int .u64 V) ∧ Below W.heap.size W W')) :
    Calls Try.prog 58 #[.int .i64 w, .agg #[.bool n1, .int .i64 K1, .int .i64 X1, .int .u64 S1], .agg #[.bool n2, .int .i64 K2, .int .i64 X2, .int .u64 S2]] W fun r W' => r = .returned (.int .u64 V) ∧ Below W.heap.size W W' := by
  go_enter Try.func58, Try.ntmps58
  go_wp2_with fail
  have HB := hide (below2 W (.cells #[.bool n1, .int .i64 K1, .int .i64 X1, .int .u64 S1] 36) (.cells #[.bool n2, .int .i64 K2, .int .i64 X2, .int .u64 S2] 36))
  refine (unhide HC _).mono ?_
  rintro _ w1 ⟨rfl, hb⟩
  have HB := hide (bthen (unhide HB) hb)
  clear hb
  go_wp2_with fail
  go_ret
  exact ⟨rfl, unhide HB⟩
set_option maxRecDepth 100000 in
set_option maxHeartbeats 4000000 in
theorem plus_na {w K1 X1 S1 K2 X2 S2 V : Int} {n1 n2 : Bool} (W : World) (hk : (K1 != K2) = false) (k0 : (K1 == 0) = false) (k2 : (K1 == 2) = false) (k1 : (K1 == 1) = false) (HC : Hid (∀ W, Calls Try.prog 17 #[.int .i64 w] W fun r W' => r = .returned (.int .u64 V) ∧ Below W.heap.size W W')) :
    Calls Try.prog 58 #[.int .i64 w, .agg #[.bool n1, .int .i64 K1, .int .i64 X1, .int .u64 S1], .agg #[.bool n2, .int .i64 K2, .int .i64 X2, .int .u64 S2]] W fun r W' => r = .returned (.int .u64 V) ∧ Below W.heap.size W W' := by
  go_enter Try.func58, Try.ntmps58
  go_wp2_with fail
  have HB := hide (below2 W (.cells #[.bool n1, .int .i64 K1, .int .i64 X1, .int .u64 S1] 36) (.cells #[.bool n2, .int .i64 K2, .int .i64 X2, .int .u64 S2] 36))
  refine (unhide HC _).mono ?_
  rintro _ w1 ⟨rfl, hb⟩
  have HB := hide (bthen (unhide HB) hb)
  clear hb
  go_wp2_with fail
  go_ret
  exact ⟨rfl, unhide HB⟩
set_option maxRecDepth 100000 in
set_option maxHeartbeats 4000000 in
theorem sumSub_l {w x y K1 X1 S1 K2 X2 S2 V : Int} {n1 n2 : Bool} (W : World) (HO1 : Hid (∀ W, Calls Try.prog 16 #[.int .i64 w, .int .u64 x] W fun r W' => r = .returned (.agg #[.bool n1, .int .i64 K1, .int .i64 X1, .int .u64 S1]) ∧ Below W.heap.size W W')) (HO2 : Hid (∀ W, Calls Try.prog 16 #[.int .i64 w, .int .u64 y] W fun r W' => r = .returned (.agg #[.bool n2, .int .i64 K2, .int .i64 X2, .int .u64 S2]) ∧ Below W.heap.size W W')) (HP : Hid (∀ W, Calls Try.prog 58 #[.int .i64 w, .agg #[.bool n1, .int .i64 K1, .int .i64 X1, .int .u64 S1], .agg #[.bool (!n2), .int .i64 K2, .int .i64 X2, .int .u64 S2]] W fun r W' => r = .returned (.int .u64 V) ∧ Below W.heap.size W W')) :
    Calls Try.prog 21 #[.int .i64 w, .int .u64 x, .int .u64 y] W fun r W' => r = .returned (.int .u64 V) ∧ Below W.heap.size W W' := by
  go_enter Try.func21, Try.ntmps21
  go_wp2_with fail
  refine (unhide HO2 _).mono ?_
  rintro _ w1 ⟨rfl, hb⟩
  go_wp2_with fail
  have HB := hide ((balloc hb (.cells #[.bool (!n2), .int .i64 K2, .int .i64 X2, .int .u64 S2] 36)).drew)
  clear hb
  have HA := hide ((at4_new w1 (.bool (!n2)) (.int .i64 K2) (.int .i64 X2) (.int .u64 S2) 36).below ((Below.refl _ _).drew))
  refine wp_region_held_drew (S := fun w' => w'.cell? ⟨w1.heap.size, 0, none⟩ = some (.bool (!n2)) ∧ w'.cell? ⟨w1.heap.size, 1, none⟩ = some (.int .i64 K2) ∧ w'.cell? ⟨w1.heap.size, 2, none⟩ = some (.int .i64 X2) ∧ w'.cell? ⟨w1.heap.size, 3, none⟩ = some (.int .u64 S2)) (by kernel_rfl) ?_ (fun hHeld => ?_)
  · (try dsimp only)
    exact unhide HA
  refine anyH_at #[false, false, false, false, false, false, false] (by kernel_rfl) ?_
  refine wpAnyH_take (i := 0) (oi := { dst := some 15, op := _, type := _, pos := _, after := _, guard := _ }) (v := ?vv0) rfl (by kernel_rfl) (by kernel_rfl) (by kernel_rfl) (fun _ _ _ h => h) (Or.inl ⟨by rfl, ?hy0⟩) (by assumption) ?rest0
  case hy0 => ((intro w hSw; (try dsimp only at hSw); go_simp) <;> with_reducible rfl)
  case rest0 =>
    (try simp only [Act.put, List.setIfInBounds_toArray, List.set_cons_zero, List.set_cons_succ])
    refine anyH_at #[true, false, false, false, false, false, false] (by kernel_rfl) ?_
    refine wpAnyH_take (i := 1) (oi := { dst := some 16, op := _, type := _, pos := _, after := _, guard := _ }) (v := ?vv1) rfl (by kernel_rfl) (by kernel_rfl) (by kernel_rfl) (fun _ _ _ h => h) (Or.inl ⟨by rfl, ?hy1⟩) (by assumption) ?rest1
    case hy1 => ((intro w hSw; (try dsimp only at hSw); go_simp) <;> with_reducible rfl)
    case rest1 =>
      (try simp only [Act.put, List.setIfInBounds_toArray, List.set_cons_zero, List.set_cons_succ])
      refine anyH_at #[true, true, false, false, false, false, false] (by kernel_rfl) ?_
      refine wpAnyH_take (i := 2) (oi := { dst := some 17, op := _, type := _, pos := _, after := _, guard := _ }) (v := ?vv2) rfl (by kernel_rfl) (by kernel_rfl) (by kernel_rfl) (fun _ _ _ h => h) (Or.inl ⟨by rfl, ?hy2⟩) (by assumption) ?rest2
      case hy2 => ((intro w hSw; (try dsimp only at hSw); go_simp) <;> with_reducible rfl)
      case rest2 =>
        (try simp only [Act.put, List.setIfInBounds_toArray, List.set_cons_zero, List.set_cons_succ])
        refine anyH_at #[true, true, true, false, false, false, false] (by kernel_rfl) ?_
        refine wpAnyH_take (i := 4) (oi := { dst := some 19, op := _, type := _, pos := _, after := _, guard := _ }) (v := ?vv4) rfl (by kernel_rfl) (by kernel_rfl) (by kernel_rfl) (fun _ _ _ h => h) (Or.inl ⟨by rfl, ?hy4⟩) (by assumption) ?rest4
        case hy4 => ((intro w hSw; (try dsimp only at hSw); go_simp) <;> with_reducible rfl)
        case rest4 =>
          (try simp only [Act.put, List.setIfInBounds_toArray, List.set_cons_zero, List.set_cons_succ])
          refine anyH_at #[true, true, true, false, true, false, false] (by kernel_rfl) ?_
          refine wpAnyH_ready (rs := [3]) (by kernel_rfl) (by simp) ?_
          refine AllReadyH.cons (o := { dst := some 18, op := _, type := _, pos := _, after := _, guard := _ }) rfl (fun Kk hKk => ?_) AllReadyH.nil
          go_simp
          refine (unhide HO1 _).mono ?_
          rintro _ w2 ⟨rfl, hbl⟩
          have HB := hide (bthen (unhide HB) hbl)
          have HA := hide ((unhide HA).below hbl)
          clear hbl
          (try go_wp2_with fail)
          refine hKk.out _ _ ?_ (fun hHeld => ?_)
          · (try dsimp only)
            exact unhide HA
          clear hKk Kk
          (try simp only [List.setIfInBounds_toArray, List.set_cons_zero, List.set_cons_succ])
          refine anyH_at #[true, true, true, true, true, false, false] (by kernel_rfl) ?_
          refine wpAnyH_ready (rs := [5]) (by kernel_rfl) (by simp) ?_
          refine AllReadyH.cons (o := { dst := some 20, op := _, type := _, pos := _, after := _, guard := _ }) rfl (fun Kk hKk => ?_) AllReadyH.nil
          go_simp
          refine (unhide HP _).mono ?_
          rintro _ w2 ⟨rfl, hbl⟩
          have HB := hide (bthen (unhide HB) hbl)
          have HA := hide ((unhide HA).below hbl)
          clear hbl
          (try go_wp2_with fail)
          refine hKk.out _ _ ?_ (fun hHeld => ?_)
          · (try dsimp only)
            exact unhide HA
          clear hKk Kk
          (try simp only [List.setIfInBounds_toArray, List.set_cons_zero, List.set_cons_succ])
          refine anyH_at #[true, true, true, true, true, true, false] (by kernel_rfl) ?_
          refine wpAnyH_take (i := 6) (oi := { dst := some 6, op := _, type := _, pos := _, after := _, guard := _ }) (v := ?vv6) rfl (by kernel_rfl) (by kernel_rfl) (by kernel_rfl) (fun _ _ _ h => h) (Or.inl ⟨by rfl, ?hy6⟩) (by assumption) ?rest6
          case hy6 => ((intro w hSw; (try dsimp only at hSw); go_simp) <;> with_reducible rfl)
          case rest6 =>
            (try simp only [Act.put, List.setIfInBounds_toArray, List.set_cons_zero, List.set_cons_succ])
            refine anyH_at #[true, true, true, true, true, true, true] (by kernel_rfl) ?_
            refine wpAnyH_done (by kernel_rfl) ?_ _
            go_wp2
            go_ret
            exact ⟨rfl, unhide HB⟩

end Go.Proofs.Ytepdmpcgkecjiaa
