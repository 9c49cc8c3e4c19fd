/- Nearest. -/
import Derived.Test.YticbhdgamblmbaaG25
namespace Go.Proofs.Yticbhdgamblmbaa
open Go.RowKit

set_option maxRecDepth 100000 in
set_option maxHeartbeats 4000000 in
theorem nearest_z {h l E w f L M V : Int} {n m : Bool} (W : World) (HN : Hid (∀ W, Calls Try.prog 69 #[.agg #[.bool n, .int .u64 h, .int .u64 l, .int .i64 E, .bool m]] W fun r W' => r = .returned (.bool true) ∧ Below W.heap.size W W')) (HC : Hid (∀ W, Calls Try.prog 19 #[.int .i64 w, .bool n] W fun r W' => r = .returned (.int .u64 V) ∧ Below W.heap.size W W')) :
    Calls Try.prog 60 #[.agg #[.bool n, .int .u64 h, .int .u64 l, .int .i64 E, .bool m, .int .i64 w, .int .i64 f, .int .i64 L, .int .i64 M]] W fun r W' => r = .returned (.int .u64 V) ∧ Below W.heap.size W W' := by
  go_enter Try.func60, Try.ntmps60
  go_wp2_with fail
  refine (unhide HN _).mono ?_
  rintro _ w1 ⟨rfl, hb⟩
  have HA := hide ((at9_new W _ _ _ _ _ _ _ _ _ 77).below hb)
  have HB := hide (bthen (below1 _ _) hb)
  clear hb
  obtain ⟨a0, a1, a2, a3, a4, a5, a6, a7, a8⟩ := unhide HA
  go_wp2_with fail
  refine (unhide HC _).mono ?_
  rintro _ w2 ⟨rfl, hb⟩
  have HB := hide (bthen (unhide HB) hb)
  clear hb
  go_wp2_with fail
  go_ret
  exact ⟨rfl, unhide HB⟩
set_option maxRecDepth 100000 in
set_option maxHeartbeats 4000000 in
theorem nearest_dn {h l E w f L M V T Nn s hb0 : Int} {n m lost : Bool} (W : World) (HN : Hid (∀ W, Calls Try.prog 69 #[.agg #[.bool n, .int .u64 h, .int .u64 l, .int .i64 E, .bool m]] W fun r W' => r = .returned (.bool false) ∧ Below W.heap.size W W')) (HT : Hid (∀ W, Calls Try.prog 70 #[.agg #[.bool n, .int .u64 h, .int .u64 l, .int .i64 E, .bool m]] W fun r W' => r = .returned (.int .i64 T) ∧ Below W.heap.size W W')) (kt : IntKind.i64.wrap (T - f) = T - f) (xm : ¬ T - f < L)
    (kN : Nn / 2 = s) (ka : bits .and .u64 Nn 1 = hb0) (kh : (hb0 == 1) = false)
    (HH : Hid (∀ W, Calls Try.prog 71 #[.agg #[.bool n, .int .u64 h, .int .u64 l, .int .i64 E, .bool m], .int .i64 (T - f)] W fun r W' => r = .returned (.tuple #[.int .u64 Nn, .bool lost]) ∧ Below W.heap.size W W')) (HF : Hid (∀ W, Calls Try.prog 72 #[.agg #[.bool n, .int .u64 h, .int .u64 l, .int .i64 E, .bool m, .int .i64 w, .int .i64 f, .int .i64 L, .int .i64 M], .int .u64 s, .int .i64 (T - f)] W fun r W' => r = .returned (.int .u64 V) ∧ Below W.heap.size W W')) :
    Calls Try.prog 60 #[.agg #[.bool n, .int .u64 h, .int .u64 l, .int .i64 E, .bool m, .int .i64 w, .int .i64 f, .int .i64 L, .int .i64 M]] W fun r W' => r = .returned (.int .u64 V) ∧ Below W.heap.size W W' := by
  go_enter Try.func60, Try.ntmps60
  go_wp2_with fail
  refine (unhide HN _).mono ?_
  rintro _ w1 ⟨rfl, hb⟩
  have HA := hide ((at9_new W _ _ _ _ _ _ _ _ _ 77).below hb)
  have HB := hide (bthen (below1 _ _) hb)
  clear hb
  go_wp2_with fail
  have HB := hide (unhide HB).drew
  have HA := hide ((unhide HA).below ((Below.refl _ _).drew))
  refine wp_region_held_drew (S := fun w' => w'.cell? ⟨W.heap.size, 0, none⟩ = some (.bool n) ∧ w'.cell? ⟨W.heap.size, 1, none⟩ = some (.int .u64 h) ∧ w'.cell? ⟨W.heap.size, 2, none⟩ = some (.int .u64 l) ∧ w'.cell? ⟨W.heap.size, 3, none⟩ = some (.int .i64 E) ∧ w'.cell? ⟨W.heap.size, 4, none⟩ = some (.bool m) ∧ w'.cell? ⟨W.heap.size, 5, none⟩ = some (.int .i64 w) ∧ w'.cell? ⟨W.heap.size, 6, none⟩ = some (.int .i64 f) ∧ w'.cell? ⟨W.heap.size, 7, none⟩ = some (.int .i64 L) ∧ w'.cell? ⟨W.heap.size, 8, none⟩ = some (.int .i64 M)) (by kernel_rfl) ?_ (fun hHeld => ?_)
  · (try dsimp only)
    exact unhide HA
  refine anyH_at #[false, false, false, false, false, false, false, false, false, false, false, false] (by kernel_rfl) ?_
  refine wpAnyH_take (i := 0) (oi := { dst := some 18, op := _, type := _, pos := _, after := _, guard := _ }) (v := ?vv0r3) rfl (by kernel_rfl) (by kernel_rfl) (by kernel_rfl) (fun _ _ _ h => h) (Or.inl ⟨by rfl, ?hy0r3⟩) (by assumption) ?rest0r3
  case hy0r3 => ((intro w hSw; (try dsimp only at hSw); go_simp) <;> with_reducible rfl)
  case rest0r3 =>
    (try simp only [Act.put, List.setIfInBounds_toArray, List.set_cons_zero, List.set_cons_succ])
    refine anyH_at #[true, false, false, false, false, false, false, false, false, false, false, false] (by kernel_rfl) ?_
    refine wpAnyH_take (i := 1) (oi := { dst := some 19, op := _, type := _, pos := _, after := _, guard := _ }) (v := ?vv1r3) rfl (by kernel_rfl) (by kernel_rfl) (by kernel_rfl) (fun _ _ _ h => h) (Or.inl ⟨by rfl, ?hy1r3⟩) (by assumption) ?rest1r3
    case hy1r3 => ((intro w hSw; (try dsimp only at hSw); go_simp) <;> with_reducible rfl)
    case rest1r3 =>
      (try simp only [Act.put, List.setIfInBounds_toArray, List.set_cons_zero, List.set_cons_succ])
      refine anyH_at #[true, true, false, false, false, false, false, false, false, false, false, false] (by kernel_rfl) ?_
      refine wpAnyH_take (i := 3) (oi := { dst := some 21, op := _, type := _, pos := _, after := _, guard := _ }) (v := ?vv3r3) rfl (by kernel_rfl) (by kernel_rfl) (by kernel_rfl) (fun _ _ _ h => h) (Or.inl ⟨by rfl, ?hy3r3⟩) (by assumption) ?rest3r3
      case hy3r3 => ((intro w hSw; (try dsimp only at hSw); go_simp) <;> with_reducible rfl)
      case rest3r3 =>
        (try simp only [Act.put, List.setIfInBounds_toArray, List.set_cons_zero, List.set_cons_succ])
        refine anyH_at #[true, true, false, true, false, false, false, false, false, false, false, false] (by kernel_rfl) ?_
        refine wpAnyH_take (i := 4) (oi := { dst := some 22, op := _, type := _, pos := _, after := _, guard := _ }) (v := ?vv4r3) rfl (by kernel_rfl) (by kernel_rfl) (by kernel_rfl) (fun _ _ _ h => h) (Or.inl ⟨by rfl, ?hy4r3⟩) (by assumption) ?rest4r3
        case hy4r3 => ((intro w hSw; (try dsimp only at hSw); go_simp) <;> with_reducible rfl)
        case rest4r3 =>
          (try simp only [Act.put, List.setIfInBounds_toArray, List.set_cons_zero, List.set_cons_succ])
          refine anyH_at #[true, true, false, true, true, false, false, false, false, false, false, false] (by kernel_rfl) ?_
          refine wpAnyH_take (i := 5) (oi := { dst := some 23, op := _, type := _, pos := _, after := _, guard := _ }) (v := ?vv5r3) rfl (by kernel_rfl) (by kernel_rfl) (by kernel_rfl) (fun _ _ _ h => h) (Or.inl ⟨by rfl, ?hy5r3⟩) (by assumption) ?rest5r3
          case hy5r3 => ((intro w hSw; (try dsimp only at hSw); go_simp) <;> with_reducible rfl)
          case rest5r3 =>
            (try simp only [Act.put, List.setIfInBounds_toArray, List.set_cons_zero, List.set_cons_succ])
            refine anyH_at #[true, true, false, true, true, true, false, false, false, false, false, false] (by kernel_rfl) ?_
            refine wpAnyH_take (i := 7) (oi := { dst := some 25, op := _, type := _, pos := _, after := _, guard := _ }) (v := ?vv7r3) rfl (by kernel_rfl) (by kernel_rfl) (by kernel_rfl) (fun _ _ _ h => h) (Or.inl ⟨by rfl, ?hy7r3⟩) (by assumption) ?rest7r3
            case hy7r3 => ((intro w hSw; (try dsimp only at hSw); go_simp) <;> with_reducible rfl)
            case rest7r3 =>
              (try simp only [Act.put, List.setIfInBounds_toArray, List.set_cons_zero, List.set_cons_succ])
              refine anyH_at #[true, true, false, true, true, true, false, true, false, false, false, false] (by kernel_rfl) ?_
              refine wpAnyH_take (i := 8) (oi := { dst := some 26, op := _, type := _, pos := _, after := _, guard := _ }) (v := ?vv8r3) rfl (by kernel_rfl) (by kernel_rfl) (by kernel_rfl) (fun _ _ _ h => h) (Or.inl ⟨by rfl, ?hy8r3⟩) (by assumption) ?rest8r3
              case hy8r3 => ((intro w hSw; (try dsimp only at hSw); go_simp) <;> with_reducible rfl)
              case rest8r3 =>
                (try simp only [Act.put, List.setIfInBounds_toArray, List.set_cons_zero, List.set_cons_succ])
                refine anyH_at #[true, true, false, true, true, true, false, true, true, false, false, false] (by kernel_rfl) ?_
                refine wpAnyH_take (i := 9) (oi := { dst := some 27, op := _, type := _, pos := _, after := _, guard := _ }) (v := ?vv9r3) rfl (by kernel_rfl) (by kernel_rfl) (by kernel_rfl) (fun _ _ _ h => h) (Or.inl ⟨by rfl, ?hy9r3⟩) (by assumption) ?rest9r3
                case hy9r3 => ((intro w hSw; (try dsimp only at hSw); go_simp) <;> with_reducible rfl)
                case rest9r3 =>
                  (try simp only [Act.put, List.setIfInBounds_toArray, List.set_cons_zero, List.set_cons_succ])
                  refine anyH_at #[true, true, false, true, true, true, false, true, true, true, false, false] (by kernel_rfl) ?_
                  refine wpAnyH_ready (rs := [2]) (by kernel_rfl) (by simp) ?_
                  refine AllReadyH.cons (o := { dst := some 20, op := _, type := _, pos := _, after := _, guard := _ }) rfl (fun Kk hKk => ?_) AllReadyH.nil
                  go_simp
                  refine (unhide HT _).mono ?_
                  rintro _ w2 ⟨rfl, hbl⟩
                  have HB := hide (bthen (unhide HB) hbl)
                  have HA := hide ((unhide HA).below hbl)
                  clear hbl
                  (try go_wp2_with fail)
                  refine hKk.out _ _ ?_ (fun hHeld => ?_)
                  · (try dsimp only)
                    exact unhide HA
                  clear hKk Kk
                  (try simp only [List.setIfInBounds_toArray, List.set_cons_zero, List.set_cons_succ])
                  refine anyH_at #[true, true, true, true, true, true, false, true, true, true, false, false] (by kernel_rfl) ?_
                  refine wpAnyH_take (i := 6) (oi := { dst := some 24, op := _, type := _, pos := _, after := _, guard := _ }) (v := ?vv6r3) rfl (by kernel_rfl) (by kernel_rfl) (by kernel_rfl) (fun _ _ _ h => h) (Or.inl ⟨by rfl, ?hy6r3⟩) (by assumption) ?rest6r3
                  case hy6r3 => ((intro w hSw; (try dsimp only at hSw); go_simp) <;> with_reducible rfl)
                  case rest6r3 =>
                    (try simp only [Act.put, List.setIfInBounds_toArray, List.set_cons_zero, List.set_cons_succ])
                    refine anyH_at #[true, true, true, true, true, true, true, true, true, true, false, false] (by kernel_rfl) ?_
                    refine wpAnyH_take (i := 10) (oi := { dst := some 28, op := _, type := _, pos := _, after := _, guard := _ }) (v := ?vv10r3) rfl (by kernel_rfl) (by kernel_rfl) (by kernel_rfl) (fun _ _ _ h => h) (Or.inl ⟨by rfl, ?hy10r3⟩) (by assumption) ?rest10r3
                    case hy10r3 => ((intro w hSw; (try dsimp only at hSw); go_simp) <;> with_reducible rfl)
                    case rest10r3 =>
                      (try simp only [Act.put, List.setIfInBounds_toArray, List.set_cons_zero, List.set_cons_succ])
                      refine anyH_at #[true, true, true, true, true, true, true, true, true, true, true, false] (by kernel_rfl) ?_
                      refine wpAnyH_take (i := 11) (oi := { dst := some 3, op := _, type := _, pos := _, after := _, guard := _ }) (v := ?vv11r3) rfl (by kernel_rfl) (by kernel_rfl) (by kernel_rfl) (fun _ _ _ h => h) (Or.inl ⟨by rfl, ?hy11r3⟩) (by assumption) ?rest11r3
                      case hy11r3 => ((intro w hSw; (try dsimp only at hSw); go_simp) <;> with_reducible rfl)
                      case rest11r3 =>
                        (try simp only [Act.put, List.setIfInBounds_toArray, List.set_cons_zero, List.set_cons_succ])
                        refine anyH_at #[true, true, true, true, true, true, true, true, true, true, true, true] (by kernel_rfl) ?_
                        refine wpAnyH_done (by kernel_rfl) ?_ _
                        clear hHeld
                        obtain ⟨a0, a1, a2, a3, a4, a5, a6, a7, a8⟩ := unhide HA
                        go_wp2_with fail
                        clear a0 a1 a2 a3 a4 a5 a6 a7 a8
                        refine (unhide HH _).mono ?_
                        rintro _ w3 ⟨rfl, hbl⟩
                        have HB := hide (bthen (unhide HB) hbl)
                        have HA := hide ((unhide HA).below hbl)
                        clear hbl
                        obtain ⟨a0, a1, a2, a3, a4, a5, a6, a7, a8⟩ := unhide HA
                        go_wp2_with fail
                        refine (unhide HF _).mono ?_
                        rintro _ w4 ⟨rfl, hbl⟩
                        have HB := hide (bthen (unhide HB) hbl)
                        clear hbl
                        go_wp2_with fail
                        go_ret
                        exact ⟨rfl, unhide HB⟩

set_option maxRecDepth 100000 in
set_option maxHeartbeats 4000000 in
theorem nearest_du {h l E w f L M V T Nn s hb0 : Int} {n m : Bool} (W : World) (HN : Hid (∀ W, Calls Try.prog 69 #[.agg #[.bool n, .int .u64 h, .int .u64 l, .int .i64 E, .bool m]] W fun r W' => r = .returned (.bool false) ∧ Below W.heap.size W W')) (HT : Hid (∀ W, Calls Try.prog 70 #[.agg #[.bool n, .int .u64 h, .int .u64 l, .int .i64 E, .bool m]] W fun r W' => r = .returned (.int .i64 T) ∧ Below W.heap.size W W')) (kt : IntKind.i64.wrap (T - f) = T - f) (xm : ¬ T - f < L)
    (kN : Nn / 2 = s) (ka : bits .and .u64 Nn 1 = hb0) (kh : (hb0 == 1) = true) (kw : IntKind.u64.wrap (s + 1) = s + 1)
    (HH : Hid (∀ W, Calls Try.prog 71 #[.agg #[.bool n, .int .u64 h, .int .u64 l, .int .i64 E, .bool m], .int .i64 (T - f)] W fun r W' => r = .returned (.tuple #[.int .u64 Nn, .bool true]) ∧ Below W.heap.size W W')) (HF : Hid (∀ W, Calls Try.prog 72 #[.agg #[.bool n, .int .u64 h, .int .u64 l, .int .i64 E, .bool m, .int .i64 w, .int .i64 f, .int .i64 L, .int .i64 M], .int .u64 (s + 1), .int .i64 (T - f)] W fun r W' => r = .returned (.int .u64 V) ∧ Below W.heap.size W W')) :
    Calls Try.prog 60 #[.agg #[.bool n, .int .u64 h, .int .u64 l, .int .i64 E, .bool m, .int .i64 w, .int .i64 f, .int .i64 L, .int .i64 M]] W fun r W' => r = .returned (.int .u64 V) ∧ Below W.heap.size W W' := by
  go_enter Try.func60, Try.ntmps60
  go_wp2_with fail
  refine (unhide HN _).mono ?_
  rintro _ w1 ⟨rfl, hb⟩
  have HA := hide ((at9_new W _ _ _ _ _ _ _ _ _ 77).below hb)
  have HB := hide (bthen (below1 _ _) hb)
  clear hb
  go_wp2_with fail
  have HB := hide (unhide HB).drew
  have HA := hide ((unhide HA).below ((Below.refl _ _).drew))
  refine wp_region_held_drew (S := fun w' => w'.cell? ⟨W.heap.size, 0, none⟩ = some (.bool n) ∧ w'.cell? ⟨W.heap.size, 1, none⟩ = some (.int .u64 h) ∧ w'.cell? ⟨W.heap.size, 2, none⟩ = some (.int .u64 l) ∧ w'.cell? ⟨W.heap.size, 3, none⟩ = some (.int .i64 E) ∧ w'.cell? ⟨W.heap.size, 4, none⟩ = some (.bool m) ∧ w'.cell? ⟨W.heap.size, 5, none⟩ = some (.int .i64 w) ∧ w'.cell? ⟨W.heap.size, 6, none⟩ = some (.int .i64 f) ∧ w'.cell? ⟨W.heap.size, 7, none⟩ = some (.int .i64 L) ∧ w'.cell? ⟨W.heap.size, 8, none⟩ = some (.int .i64 M)) (by kernel_rfl) ?_ (fun hHeld => ?_)
  · (try dsimp only)
    exact unhide HA
  refine anyH_at #[false, false, false, false, false, false, false, false, false, false, false, false] (by kernel_rfl) ?_
  refine wpAnyH_take (i := 0) (oi := { dst := some 18, op := _, type := _, pos := _, after := _, guard := _ }) (v := ?vv0r3) rfl (by kernel_rfl) (by kernel_rfl) (by kernel_rfl) (fun _ _ _ h => h) (Or.inl ⟨by rfl, ?hy0r3⟩) (by assumption) ?rest0r3
  case hy0r3 => ((intro w hSw; (try dsimp only at hSw); go_simp) <;> with_reducible rfl)
  case rest0r3 =>
    (try simp only [Act.put, List.setIfInBounds_toArray, List.set_cons_zero, List.set_cons_succ])
    refine anyH_at #[true, false, false, false, false, false, false, false, false, false, false, false] (by kernel_rfl) ?_
    refine wpAnyH_take (i := 1) (oi := { dst := some 19, op := _, type := _, pos := _, after := _, guard := _ }) (v := ?vv1r3) rfl (by kernel_rfl) (by kernel_rfl) (by kernel_rfl) (fun _ _ _ h => h) (Or.inl ⟨by rfl, ?hy1r3⟩) (by assumption) ?rest1r3
    case hy1r3 => ((intro w hSw; (try dsimp only at hSw); go_simp) <;> with_reducible rfl)
    case rest1r3 =>
      (try simp only [Act.put, List.setIfInBounds_toArray, List.set_cons_zero, List.set_cons_succ])
      refine anyH_at #[true, true, false, false, false, false, false, false, false, false, false, false] (by kernel_rfl) ?_
      refine wpAnyH_take (i := 3) (oi := { dst := some 21, op := _, type := _, pos := _, after := _, guard := _ }) (v := ?vv3r3) rfl (by kernel_rfl) (by kernel_rfl) (by kernel_rfl) (fun _ _ _ h => h) (Or.inl ⟨by rfl, ?hy3r3⟩) (by assumption) ?rest3r3
      case hy3r3 => ((intro w hSw; (try dsimp only at hSw); go_simp) <;> with_reducible rfl)
      case rest3r3 =>
        (try simp only [Act.put, List.setIfInBounds_toArray, List.set_cons_zero, List.set_cons_succ])
        refine anyH_at #[true, true, false, true, false, false, false, false, false, false, false, false] (by kernel_rfl) ?_
        refine wpAnyH_take (i := 4) (oi := { dst := some 22, op := _, type := _, pos := _, after := _, guard := _ }) (v := ?vv4r3) rfl (by kernel_rfl) (by kernel_rfl) (by kernel_rfl) (fun _ _ _ h => h) (Or.inl ⟨by rfl, ?hy4r3⟩) (by assumption) ?rest4r3
        case hy4r3 => ((intro w hSw; (try dsimp only at hSw); go_simp) <;> with_reducible rfl)
        case rest4r3 =>
          (try simp only [Act.put, List.setIfInBounds_toArray, List.set_cons_zero, List.set_cons_succ])
          refine anyH_at #[true, true, false, true, true, false, false, false, false, false, false, false] (by kernel_rfl) ?_
          refine wpAnyH_take (i := 5) (oi := { dst := some 23, op := _, type := _, pos := _, after := _, guard := _ }) (v := ?vv5r3) rfl (by kernel_rfl) (by kernel_rfl) (by kernel_rfl) (fun _ _ _ h => h) (Or.inl ⟨by rfl, ?hy5r3⟩) (by assumption) ?rest5r3
          case hy5r3 => ((intro w hSw; (try dsimp only at hSw); go_simp) <;> with_reducible rfl)
          case rest5r3 =>
            (try simp only [Act.put, List.setIfInBounds_toArray, List.set_cons_zero, List.set_cons_succ])
            refine anyH_at #[true, true, false, true, true, true, false, false, false, false, false, false] (by kernel_rfl) ?_
            refine wpAnyH_take (i := 7) (oi := { dst := some 25, op := _, type := _, pos := _, after := _, guard := _ }) (v := ?vv7r3) rfl (by kernel_rfl) (by kernel_rfl) (by kernel_rfl) (fun _ _ _ h => h) (Or.inl ⟨by rfl, ?hy7r3⟩) (by assumption) ?rest7r3
            case hy7r3 => ((intro w hSw; (try dsimp only at hSw); go_simp) <;> with_reducible rfl)
            case rest7r3 =>
              (try simp only [Act.put, List.setIfInBounds_toArray, List.set_cons_zero, List.set_cons_succ])
              refine anyH_at #[true, true, false, true, true, true, false, true, false, false, false, false] (by kernel_rfl) ?_
              refine wpAnyH_take (i := 8) (oi := { dst := some 26, op := _, type := _, pos := _, after := _, guard := _ }) (v := ?vv8r3) rfl (by kernel_rfl) (by kernel_rfl) (by kernel_rfl) (fun _ _ _ h => h) (Or.inl ⟨by rfl, ?hy8r3⟩) (by assumption) ?rest8r3
              case hy8r3 => ((intro w hSw; (try dsimp only at hSw); go_simp) <;> with_reducible rfl)
              case rest8r3 =>
                (try simp only [Act.put, List.setIfInBounds_toArray, List.set_cons_zero, List.set_cons_succ])
                refine anyH_at #[true, true, false, true, true, true, false, true, true, false, false, false] (by kernel_rfl) ?_
                refine wpAnyH_take (i := 9) (oi := { dst := some 27, op := _, type := _, pos := _, after := _, guard := _ }) (v := ?vv9r3) rfl (by kernel_rfl) (by kernel_rfl) (by kernel_rfl) (fun _ _ _ h => h) (Or.inl ⟨by rfl, ?hy9r3⟩) (by assumption) ?rest9r3
                case hy9r3 => ((intro w hSw; (try dsimp only at hSw); go_simp) <;> with_reducible rfl)
                case rest9r3 =>
                  (try simp only [Act.put, List.setIfInBounds_toArray, List.set_cons_zero, List.set_cons_succ])
                  refine anyH_at #[true, true, false, true, true, true, false, true, true, true, false, false] (by kernel_rfl) ?_
                  refine wpAnyH_ready (rs := [2]) (by kernel_rfl) (by simp) ?_
                  refine AllReadyH.cons (o := { dst := some 20, op := _, type := _, pos := _, after := _, guard := _ }) rfl (fun Kk hKk => ?_) AllReadyH.nil
                  go_simp
                  refine (unhide HT _).mono ?_
                  rintro _ w2 ⟨rfl, hbl⟩
                  have HB := hide (bthen (unhide HB) hbl)
                  have HA := hide ((unhide HA).below hbl)
                  clear hbl
                  (try go_wp2_with fail)
                  refine hKk.out _ _ ?_ (fun hHeld => ?_)
                  · (try dsimp only)
                    exact unhide HA
                  clear hKk Kk
                  (try simp only [List.setIfInBounds_toArray, List.set_cons_zero, List.set_cons_succ])
                  refine anyH_at #[true, true, true, true, true, true, false, true, true, true, false, false] (by kernel_rfl) ?_
                  refine wpAnyH_take (i := 6) (oi := { dst := some 24, op := _, type := _, pos := _, after := _, guard := _ }) (v := ?vv6r3) rfl (by kernel_rfl) (by kernel_rfl) (by kernel_rfl) (fun _ _ _ h => h) (Or.inl ⟨by rfl, ?hy6r3⟩) (by assumption) ?rest6r3
                  case hy6r3 => ((intro w hSw; (try dsimp only at hSw); go_simp) <;> with_reducible rfl)
                  case rest6r3 =>
                    (try simp only [Act.put, List.setIfInBounds_toArray, List.set_cons_zero, List.set_cons_succ])
                    refine anyH_at #[true, true, true, true, true, true, true, true, true, true, false, false] (by kernel_rfl) ?_
                    refine wpAnyH_take (i := 10) (oi := { dst := some 28, op := _, type := _, pos := _, after := _, guard := _ }) (v := ?vv10r3) rfl (by kernel_rfl) (by kernel_rfl) (by kernel_rfl) (fun _ _ _ h => h) (Or.inl ⟨by rfl, ?hy10r3⟩) (by assumption) ?rest10r3
                    case hy10r3 => ((intro w hSw; (try dsimp only at hSw); go_simp) <;> with_reducible rfl)
                    case rest10r3 =>
                      (try simp only [Act.put, List.setIfInBounds_toArray, List.set_cons_zero, List.set_cons_succ])
                      refine anyH_at #[true, true, true, true, true, true, true, true, true, true, true, false] (by kernel_rfl) ?_
                      refine wpAnyH_take (i := 11) (oi := { dst := some 3, op := _, type := _, pos := _, after := _, guard := _ }) (v := ?vv11r3) rfl (by kernel_rfl) (by kernel_rfl) (by kernel_rfl) (fun _ _ _ h => h) (Or.inl ⟨by rfl, ?hy11r3⟩) (by assumption) ?rest11r3
                      case hy11r3 => ((intro w hSw; (try dsimp only at hSw); go_simp) <;> with_reducible rfl)
                      case rest11r3 =>
                        (try simp only [Act.put, List.setIfInBounds_toArray, List.set_cons_zero, List.set_cons_succ])
                        refine anyH_at #[true, true, true, true, true, true, true, true, true, true, true, true] (by kernel_rfl) ?_
                        refine wpAnyH_done (by kernel_rfl) ?_ _
                        clear hHeld
                        obtain ⟨a0, a1, a2, a3, a4, a5, a6, a7, a8⟩ := unhide HA
                        go_wp2_with fail
                        clear a0 a1 a2 a3 a4 a5 a6 a7 a8
                        refine (unhide HH _).mono ?_
                        rintro _ w3 ⟨rfl, hbl⟩
                        have HB := hide (bthen (unhide HB) hbl)
                        have HA := hide ((unhide HA).below hbl)
                        clear hbl
                        obtain ⟨a0, a1, a2, a3, a4, a5, a6, a7, a8⟩ := unhide HA
                        go_wp2_with fail
                        refine (unhide HF _).mono ?_
                        rintro _ w4 ⟨rfl, hbl⟩
                        have HB := hide (bthen (unhide HB) hbl)
                        clear hbl
                        go_wp2_with fail
                        go_ret
                        exact ⟨rfl, unhide HB⟩

set_option maxRecDepth 100000 in
set_option maxHeartbeats 4000000 in
theorem nearest_do {h l E w f L M V T Nn s hb0 ob : Int} {n m : Bool} (W : World) (HN : Hid (∀ W, Calls Try.prog 69 #[.agg #[.bool n, .int .u64 h, .int .u64 l, .int .i64 E, .bool m]] W fun r W' => r = .returned (.bool false) ∧ Below W.heap.size W W')) (HT : Hid (∀ W, Calls Try.prog 70 #[.agg #[.bool n, .int .u64 h, .int .u64 l, .int .i64 E, .bool m]] W fun r W' => r = .returned (.int .i64 T) ∧ Below W.heap.size W W')) (kt : IntKind.i64.wrap (T - f) = T - f) (xm : ¬ T - f < L)
    (kN : Nn / 2 = s) (ka : bits .and .u64 Nn 1 = hb0) (kh : (hb0 == 1) = true) (ks : bits .and .u64 s 1 = ob) (ko : (ob == 1) = true) (kw : IntKind.u64.wrap (s + 1) = s + 1)
    (HH : Hid (∀ W, Calls Try.prog 71 #[.agg #[.bool n, .int .u64 h, .int .u64 l, .int .i64 E, .bool m], .int .i64 (T - f)] W fun r W' => r = .returned (.tuple #[.int .u64 Nn, .bool false]) ∧ Below W.heap.size W W')) (HF : Hid (∀ W, Calls Try.prog 72 #[.agg #[.bool n, .int .u64 h, .int .u64 l, .int .i64 E, .bool m, .int .i64 w, .int .i64 f, .int .i64 L, .int .i64 M], .int .u64 (s + 1), .int .i64 (T - f)] W fun r W' => r = .returned (.int .u64 V) ∧ Below W.heap.size W W')) :
    Calls Try.prog 60 #[.agg #[.bool n, .int .u64 h, .int .u64 l, .int .i64 E, .bool m, .int .i64 w, .int .i64 f, .int .i64 L, .int .i64 M]] W fun r W' => r = .returned (.int .u64 V) ∧ Below W.heap.size W W' := by
  go_enter Try.func60, Try.ntmps60
  go_wp2_with fail
  refine (unhide HN _).mono ?_
  rintro _ w1 ⟨rfl, hb⟩
  have HA := hide ((at9_new W _ _ _ _ _ _ _ _ _ 77).below hb)
  have HB := hide (bthen (below1 _ _) hb)
  clear hb
  go_wp2_with fail
  have HB := hide (unhide HB).drew
  have HA := hide ((unhide HA).below ((Below.refl _ _).drew))
  refine wp_region_held_drew (S := fun w' => w'.cell? ⟨W.heap.size, 0, none⟩ = some (.bool n) ∧ w'.cell? ⟨W.heap.size, 1, none⟩ = some (.int .u64 h) ∧ w'.cell? ⟨W.heap.size, 2, none⟩ = some (.int .u64 l) ∧ w'.cell? ⟨W.heap.size, 3, none⟩ = some (.int .i64 E) ∧ w'.cell? ⟨W.heap.size, 4, none⟩ = some (.bool m) ∧ w'.cell? ⟨W.heap.size, 5, none⟩ = some (.int .i64 w) ∧ w'.cell? ⟨W.heap.size, 6, none⟩ = some (.int .i64 f) ∧ w'.cell? ⟨W.heap.size, 7, none⟩ = some (.int .i64 L) ∧ w'.cell? ⟨W.heap.size, 8, none⟩ = some (.int .i64 M)) (by kernel_rfl) ?_ (fun hHeld => ?_)
  · (try dsimp only)
    exact unhide HA
  refine anyH_at #[false, false, false, false, false, false, false, false, false, false, false, false] (by kernel_rfl) ?_
  refine wpAnyH_take (i := 0) (oi := { dst := some 18, op := _, type := _, pos := _, after := _, guard := _ }) (v := ?vv0r3) rfl (by kernel_rfl) (by kernel_rfl) (by kernel_rfl) (fun _ _ _ h => h) (Or.inl ⟨by rfl, ?hy0r3⟩) (by assumption) ?rest0r3
  case hy0r3 => ((intro w hSw; (try dsimp only at hSw); go_simp) <;> with_reducible rfl)
  case rest0r3 =>
    (try simp only [Act.put, List.setIfInBounds_toArray, List.set_cons_zero, List.set_cons_succ])
    refine anyH_at #[true, false, false, false, false, false, false, false, false, false, false, false] (by kernel_rfl) ?_
    refine wpAnyH_take (i := 1) (oi := { dst := some 19, op := _, type := _, pos := _, after := _, guard := _ }) (v := ?vv1r3) rfl (by kernel_rfl) (by kernel_rfl) (by kernel_rfl) (fun _ _ _ h => h) (Or.inl ⟨by rfl, ?hy1r3⟩) (by assumption) ?rest1r3
    case hy1r3 => ((intro w hSw; (try dsimp only at hSw); go_simp) <;> with_reducible rfl)
    case rest1r3 =>
      (try simp only [Act.put, List.setIfInBounds_toArray, List.set_cons_zero, List.set_cons_succ])
      refine anyH_at #[true, true, false, false, false, false, false, false, false, false, false, false] (by kernel_rfl) ?_
      refine wpAnyH_take (i := 3) (oi := { dst := some 21, op := _, type := _, pos := _, after := _, guard := _ }) (v := ?vv3r3) rfl (by kernel_rfl) (by kernel_rfl) (by kernel_rfl) (fun _ _ _ h => h) (Or.inl ⟨by rfl, ?hy3r3⟩) (by assumption) ?rest3r3
      case hy3r3 => ((intro w hSw; (try dsimp only at hSw); go_simp) <;> with_reducible rfl)
      case rest3r3 =>
        (try simp only [Act.put, List.setIfInBounds_toArray, List.set_cons_zero, List.set_cons_succ])
        refine anyH_at #[true, true, false, true, false, false, false, false, false, false, false, false] (by kernel_rfl) ?_
        refine wpAnyH_take (i := 4) (oi := { dst := some 22, op := _, type := _, pos := _, after := _, guard := _ }) (v := ?vv4r3) rfl (by kernel_rfl) (by kernel_rfl) (by kernel_rfl) (fun _ _ _ h => h) (Or.inl ⟨by rfl, ?hy4r3⟩) (by assumption) ?rest4r3
        case hy4r3 => ((intro w hSw; (try dsimp only at hSw); go_simp) <;> with_reducible rfl)
        case rest4r3 =>
          (try simp only [Act.put, List.setIfInBounds_toArray, List.set_cons_zero, List.set_cons_succ])
          refine anyH_at #[true, true, false, true, true, false, false, false, false, false, false, false] (by kernel_rfl) ?_
          refine wpAnyH_take (i := 5) (oi := { dst := some 23, op := _, type := _, pos := _, after := _, guard := _ }) (v := ?vv5r3) rfl (by kernel_rfl) (by kernel_rfl) (by kernel_rfl) (fun _ _ _ h => h) (Or.inl ⟨by rfl, ?hy5r3⟩) (by assumption) ?rest5r3
          case hy5r3 => ((intro w hSw; (try dsimp only at hSw); go_simp) <;> with_reducible rfl)
          case rest5r3 =>
            (try simp only [Act.put, List.setIfInBounds_toArray, List.set_cons_zero, List.set_cons_succ])
            refine anyH_at #[true, true, false, true, true, true, false, false, false, false, false, false] (by kernel_rfl) ?_
            refine wpAnyH_take (i := 7) (oi := { dst := some 25, op := _, type := _, pos := _, after := _, guard := _ }) (v := ?vv7r3) rfl (by kernel_rfl) (by kernel_rfl) (by kernel_rfl) (fun _ _ _ h => h) (Or.inl ⟨by rfl, ?hy7r3⟩) (by assumption) ?rest7r3
            case hy7r3 => ((intro w hSw; (try dsimp only at hSw); go_simp) <;> with_reducible rfl)
            case rest7r3 =>
              (try simp only [Act.put, List.setIfInBounds_toArray, List.set_cons_zero, List.set_cons_succ])
              refine anyH_at #[true, true, false, true, true, true, false, true, false, false, false, false] (by kernel_rfl) ?_
              refine wpAnyH_take (i := 8) (oi := { dst := some 26, op := _, type := _, pos := _, after := _, guard := _ }) (v := ?vv8r3) rfl (by kernel_rfl) (by kernel_rfl) (by kernel_rfl) (fun _ _ _ h => h) (Or.inl ⟨by rfl, ?hy8r3⟩) (by assumption) ?rest8r3
              case hy8r3 => ((intro w hSw; (try dsimp only at hSw); go_simp) <;> with_reducible rfl)
              case rest8r3 =>
                (try simp only [Act.put, List.setIfInBounds_toArray, List.set_cons_zero, List.set_cons_succ])
                refine anyH_at #[true, true, false, true, true, true, false, true, true, false, false, false] (by kernel_rfl) ?_
                refine wpAnyH_take (i := 9) (oi := { dst := some 27, op := _, type := _, pos := _, after := _, guard := _ }) (v := ?vv9r3) rfl (by kernel_rfl) (by kernel_rfl) (by kernel_rfl) (fun _ _ _ h => h) (Or.inl ⟨by rfl, ?hy9r3⟩) (by assumption) ?rest9r3
                case hy9r3 => ((intro w hSw; (try dsimp only at hSw); go_simp) <;> with_reducible rfl)
                case rest9r3 =>
                  (try simp only [Act.put, List.setIfInBounds_toArray, List.set_cons_zero, List.set_cons_succ])
                  refine anyH_at #[true, true, false, true, true, true, false, true, true, true, false, false] (by kernel_rfl) ?_
                  refine wpAnyH_ready (rs := [2]) (by kernel_rfl) (by simp) ?_
                  refine AllReadyH.cons (o := { dst := some 20, op := _, type := _, pos := _, after := _, guard := _ }) rfl (fun Kk hKk => ?_) AllReadyH.nil
                  go_simp
                  refine (unhide HT _).mono ?_
                  rintro _ w2 ⟨rfl, hbl⟩
                  have HB := hide (bthen (unhide HB) hbl)
                  have HA := hide ((unhide HA).below hbl)
                  clear hbl
                  (try go_wp2_with fail)
                  refine hKk.out _ _ ?_ (fun hHeld => ?_)
                  · (try dsimp only)
                    exact unhide HA
                  clear hKk Kk
                  (try simp only [List.setIfInBounds_toArray, List.set_cons_zero, List.set_cons_succ])
                  refine anyH_at #[true, true, true, true, true, true, false, true, true, true, false, false] (by kernel_rfl) ?_
                  refine wpAnyH_take (i := 6) (oi := { dst := some 24, op := _, type := _, pos := _, after := _, guard := _ }) (v := ?vv6r3) rfl (by kernel_rfl) (by kernel_rfl) (by kernel_rfl) (fun _ _ _ h => h) (Or.inl ⟨by rfl, ?hy6r3⟩) (by assumption) ?rest6r3
                  case hy6r3 => ((intro w hSw; (try dsimp only at hSw); go_simp) <;> with_reducible rfl)
                  case rest6r3 =>
                    (try simp only [Act.put, List.setIfInBounds_toArray, List.set_cons_zero, List.set_cons_succ])
                    refine anyH_at #[true, true, true, true, true, true, true, true, true, true, false, false] (by kernel_rfl) ?_
                    refine wpAnyH_take (i := 10) (oi := { dst := some 28, op := _, type := _, pos := _, after := _, guard := _ }) (v := ?vv10r3) rfl (by kernel_rfl) (by kernel_rfl) (by kernel_rfl) (fun _ _ _ h => h) (Or.inl ⟨by rfl, ?hy10r3⟩) (by assumption) ?rest10r3
                    case hy10r3 => ((intro w hSw; (try dsimp only at hSw); go_simp) <;> with_reducible rfl)
                    case rest10r3 =>
                      (try simp only [Act.put, List.setIfInBounds_toArray, List.set_cons_zero, List.set_cons_succ])
                      refine anyH_at #[true, true, true, true, true, true, true, true, true, true, true, false] (by kernel_rfl) ?_
                      refine wpAnyH_take (i := 11) (oi := { dst := some 3, op := _, type := _, pos := _, after := _, guard := _ }) (v := ?vv11r3) rfl (by kernel_rfl) (by kernel_rfl) (by kernel_rfl) (fun _ _ _ h => h) (Or.inl ⟨by rfl, ?hy11r3⟩) (by assumption) ?rest11r3
                      case hy11r3 => ((intro w hSw; (try dsimp only at hSw); go_simp) <;> with_reducible rfl)
                      case rest11r3 =>
                        (try simp only [Act.put, List.setIfInBounds_toArray, List.set_cons_zero, List.set_cons_succ])
                        refine anyH_at #[true, true, true, true, true, true, true, true, true, true, true, true] (by kernel_rfl) ?_
                        refine wpAnyH_done (by kernel_rfl) ?_ _
                        clear hHeld
                        obtain ⟨a0, a1, a2, a3, a4, a5, a6, a7, a8⟩ := unhide HA
                        go_wp2_with fail
                        clear a0 a1 a2 a3 a4 a5 a6 a7 a8
                        refine (unhide HH _).mono ?_
                        rintro _ w3 ⟨rfl, hbl⟩
                        have HB := hide (bthen (unhide HB) hbl)
                        have HA := hide ((unhide HA).below hbl)
                        clear hbl
                        obtain ⟨a0, a1, a2, a3, a4, a5, a6, a7, a8⟩ := unhide HA
                        go_wp2_with fail
                        refine (unhide HF _).mono ?_
                        rintro _ w4 ⟨rfl, hbl⟩
                        have HB := hide (bthen (unhide HB) hbl)
                        clear hbl
                        go_wp2_with fail
                        go_ret
                        exact ⟨rfl, unhide HB⟩

set_option maxRecDepth 100000 in
set_option maxHeartbeats 4000000 in
theorem nearest_de {h l E w f L M V T Nn s hb0 ob : Int} {n m : Bool} (W : World) (HN : Hid (∀ W, Calls Try.prog 69 #[.agg #[.bool n, .int .u64 h, .int .u64 l, .int .i64 E, .bool m]] W fun r W' => r = .returned (.bool false) ∧ Below W.heap.size W W')) (HT : Hid (∀ W, Calls Try.prog 70 #[.agg #[.bool n, .int .u64 h, .int .u64 l, .int .i64 E, .bool m]] W fun r W' => r = .returned (.int .i64 T) ∧ Below W.heap.size W W')) (kt : IntKind.i64.wrap (T - f) = T - f) (xm : ¬ T - f < L)
    (kN : Nn / 2 = s) (ka : bits .and .u64 Nn 1 = hb0) (kh : (hb0 == 1) = true) (ks : bits .and .u64 s 1 = ob) (ko : (ob == 1) = false)
    (HH : Hid (∀ W, Calls Try.prog 71 #[.agg #[.bool n, .int .u64 h, .int .u64 l, .int .i64 E, .bool m], .int .i64 (T - f)] W fun r W' => r = .returned (.tuple #[.int .u64 Nn, .bool false]) ∧ Below W.heap.size W W')) (HF : Hid (∀ W, Calls Try.prog 72 #[.agg #[.bool n, .int .u64 h, .int .u64 l, .int .i64 E, .bool m, .int .i64 w, .int .i64 f, .int .i64 L, .int .i64 M], .int .u64 s, .int .i64 (T - f)] W fun r W' => r = .returned (.int .u64 V) ∧ Below W.heap.size W W')) :
    Calls Try.prog 60 #[.agg #[.bool n, .int .u64 h, .int .u64 l, .int .i64 E, .bool m, .int .i64 w, .int .i64 f, .int .i64 L, .int .i64 M]] W fun r W' => r = .returned (.int .u64 V) ∧ Below W.heap.size W W' := by
  go_enter Try.func60, Try.ntmps60
  go_wp2_with fail
  refine (unhide HN _).mono ?_
  rintro _ w1 ⟨rfl, hb⟩
  have HA := hide ((at9_new W _ _ _ _ _ _ _ _ _ 77).below hb)
  have HB := hide (bthen (below1 _ _) hb)
  clear hb
  go_wp2_with fail
  have HB := hide (unhide HB).drew
  have HA := hide ((unhide HA).below ((Below.refl _ _).drew))
  refine wp_region_held_drew (S := fun w' => w'.cell? ⟨W.heap.size, 0, none⟩ = some (.bool n) ∧ w'.cell? ⟨W.heap.size, 1, none⟩ = some (.int .u64 h) ∧ w'.cell? ⟨W.heap.size, 2, none⟩ = some (.int .u64 l) ∧ w'.cell? ⟨W.heap.size, 3, none⟩ = some (.int .i64 E) ∧ w'.cell? ⟨W.heap.size, 4, none⟩ = some (.bool m) ∧ w'.cell? ⟨W.heap.size, 5, none⟩ = some (.int .i64 w) ∧ w'.cell? ⟨W.heap.size, 6, none⟩ = some (.int .i64 f) ∧ w'.cell? ⟨W.heap.size, 7, none⟩ = some (.int .i64 L) ∧ w'.cell? ⟨W.heap.size, 8, none⟩ = some (.int .i64 M)) (by kernel_rfl) ?_ (fun hHeld => ?_)
  · (try dsimp only)
    exact unhide HA
  refine anyH_at #[false, false, false, false, false, false, false, false, false, false, false, false] (by kernel_rfl) ?_
  refine wpAnyH_take (i := 0) (oi := { dst := some 18, op := _, type := _, pos := _, after := _, guard := _ }) (v := ?vv0r3) rfl (by kernel_rfl) (by kernel_rfl) (by kernel_rfl) (fun _ _ _ h => h) (Or.inl ⟨by rfl, ?hy0r3⟩) (by assumption) ?rest0r3
  case hy0r3 => ((intro w hSw; (try dsimp only at hSw); go_simp) <;> with_reducible rfl)
  case rest0r3 =>
    (try simp only [Act.put, List.setIfInBounds_toArray, List.set_cons_zero, List.set_cons_succ])
    refine anyH_at #[true, false, false, false, false, false, false, false, false, false, false, false] (by kernel_rfl) ?_
    refine wpAnyH_take (i := 1) (oi := { dst := some 19, op := _, type := _, pos := _, after := _, guard := _ }) (v := ?vv1r3) rfl (by kernel_rfl) (by kernel_rfl) (by kernel_rfl) (fun _ _ _ h => h) (Or.inl ⟨by rfl, ?hy1r3⟩) (by assumption) ?rest1r3
    case hy1r3 => ((intro w hSw; (try dsimp only at hSw); go_simp) <;> with_reducible rfl)
    case rest1r3 =>
      (try simp only [Act.put, List.setIfInBounds_toArray, List.set_cons_zero, List.set_cons_succ])
      refine anyH_at #[true, true, false, false, false, false, false, false, false, false, false, false] (by kernel_rfl) ?_
      refine wpAnyH_take (i := 3) (oi := { dst := some 21, op := _, type := _, pos := _, after := _, guard := _ }) (v := ?vv3r3) rfl (by kernel_rfl) (by kernel_rfl) (by kernel_rfl) (fun _ _ _ h => h) (Or.inl ⟨by rfl, ?hy3r3⟩) (by assumption) ?rest3r3
      case hy3r3 => ((intro w hSw; (try dsimp only at hSw); go_simp) <;> with_reducible rfl)
      case rest3r3 =>
        (try simp only [Act.put, List.setIfInBounds_toArray, List.set_cons_zero, List.set_cons_succ])
        refine anyH_at #[true, true, false, true, false, false, false, false, false, false, false, false] (by kernel_rfl) ?_
        refine wpAnyH_take (i := 4) (oi := { dst := some 22, op := _, type := _, pos := _, after := _, guard := _ }) (v := ?vv4r3) rfl (by kernel_rfl) (by kernel_rfl) (by kernel_rfl) (fun _ _ _ h => h) (Or.inl ⟨by rfl, ?hy4r3⟩) (by assumption) ?rest4r3
        case hy4r3 => ((intro w hSw; (try dsimp only at hSw); go_simp) <;> with_reducible rfl)
        case rest4r3 =>
          (try simp only [Act.put, List.setIfInBounds_toArray, List.set_cons_zero, List.set_cons_succ])
          refine anyH_at #[true, true, false, true, true, false, false, false, false, false, false, false] (by kernel_rfl) ?_
          refine wpAnyH_take (i := 5) (oi := { dst := some 23, op := _, type := _, pos := _, after := _, guard := _ }) (v := ?vv5r3) rfl (by kernel_rfl) (by kernel_rfl) (by kernel_rfl) (fun _ _ _ h => h) (Or.inl ⟨by rfl, ?hy5r3⟩) (by assumption) ?rest5r3
          case hy5r3 => ((intro w hSw; (try dsimp only at hSw); go_simp) <;> with_reducible rfl)
          case rest5r3 =>
            (try simp only [Act.put, List.setIfInBounds_toArray, List.set_cons_zero, List.set_cons_succ])
            refine anyH_at #[true, true, false, true, true, true, false, false, false, false, false, false] (by kernel_rfl) ?_
            refine wpAnyH_take (i := 7) (oi := { dst := some 25, op := _, type := _, pos := _, after := _, guard := _ }) (v := ?vv7r3) rfl (by kernel_rfl) (by kernel_rfl) (by kernel_rfl) (fun _ _ _ h => h) (Or.inl ⟨by rfl, ?hy7r3⟩) (by assumption) ?rest7r3
            case hy7r3 => ((intro w hSw; (try dsimp only at hSw); go_simp) <;> with_reducible rfl)
            case rest7r3 =>
              (try simp only [Act.put, List.setIfInBounds_toArray, List.set_cons_zero, List.set_cons_succ])
              refine anyH_at #[true, true, false, true, true, true, false, true, false, false, false, false] (by kernel_rfl) ?_
              refine wpAnyH_take (i := 8) (oi := { dst := some 26, op := _, type := _, pos := _, after := _, guard := _ }) (v := ?vv8r3) rfl (by kernel_rfl) (by kernel_rfl) (by kernel_rfl) (fun _ _ _ h => h) (Or.inl ⟨by rfl, ?hy8r3⟩) (by assumption) ?rest8r3
              case hy8r3 => ((intro w hSw; (try dsimp only at hSw); go_simp) <;> with_reducible rfl)
              case rest8r3 =>
                (try simp only [Act.put, List.setIfInBounds_toArray, List.set_cons_zero, List.set_cons_succ])
                refine anyH_at #[true, true, false, true, true, true, false, true, true, false, false, false] (by kernel_rfl) ?_
                refine wpAnyH_take (i := 9) (oi := { dst := some 27, op := _, type := _, pos := _, after := _, guard := _ }) (v := ?vv9r3) rfl (by kernel_rfl) (by kernel_rfl) (by kernel_rfl) (fun _ _ _ h => h) (Or.inl ⟨by rfl, ?hy9r3⟩) (by assumption) ?rest9r3
                case hy9r3 => ((intro w hSw; (try dsimp only at hSw); go_simp) <;> with_reducible rfl)
                case rest9r3 =>
                  (try simp only [Act.put, List.setIfInBounds_toArray, List.set_cons_zero, List.set_cons_succ])
                  refine anyH_at #[true, true, false, true, true, true, false, true, true, true, false, false] (by kernel_rfl) ?_
                  refine wpAnyH_ready (rs := [2]) (by kernel_rfl) (by simp) ?_
                  refine AllReadyH.cons (o := { dst := some 20, op := _, type := _, pos := _, after := _, guard := _ }) rfl (fun Kk hKk => ?_) AllReadyH.nil
                  go_simp
                  refine (unhide HT _).mono ?_
                  rintro _ w2 ⟨rfl, hbl⟩
                  have HB := hide (bthen (unhide HB) hbl)
                  have HA := hide ((unhide HA).below hbl)
                  clear hbl
                  (try go_wp2_with fail)
                  refine hKk.out _ _ ?_ (fun hHeld => ?_)
                  · (try dsimp only)
                    exact unhide HA
                  clear hKk Kk
                  (try simp only [List.setIfInBounds_toArray, List.set_cons_zero, List.set_cons_succ])
                  refine anyH_at #[true, true, true, true, true, true, false, true, true, true, false, false] (by kernel_rfl) ?_
                  refine wpAnyH_take (i := 6) (oi := { dst := some 24, op := _, type := _, pos := _, after := _, guard := _ }) (v := ?vv6r3) rfl (by kernel_rfl) (by kernel_rfl) (by kernel_rfl) (fun _ _ _ h => h) (Or.inl ⟨by rfl, ?hy6r3⟩) (by assumption) ?rest6r3
                  case hy6r3 => ((intro w hSw; (try dsimp only at hSw); go_simp) <;> with_reducible rfl)
                  case rest6r3 =>
                    (try simp only [Act.put, List.setIfInBounds_toArray, List.set_cons_zero, List.set_cons_succ])
                    refine anyH_at #[true, true, true, true, true, true, true, true, true, true, false, false] (by kernel_rfl) ?_
                    refine wpAnyH_take (i := 10) (oi := { dst := some 28, op := _, type := _, pos := _, after := _, guard := _ }) (v := ?vv10r3) rfl (by kernel_rfl) (by kernel_rfl) (by kernel_rfl) (fun _ _ _ h => h) (Or.inl ⟨by rfl, ?hy10r3⟩) (by assumption) ?rest10r3
                    case hy10r3 => ((intro w hSw; (try dsimp only at hSw); go_simp) <;> with_reducible rfl)
                    case rest10r3 =>
                      (try simp only [Act.put, List.setIfInBounds_toArray, List.set_cons_zero, List.set_cons_succ])
                      refine anyH_at #[true, true, true, true, true, true, true, true, true, true, true, false] (by kernel_rfl) ?_
                      refine wpAnyH_take (i := 11) (oi := { dst := some 3, op := _, type := _, pos := _, after := _, guard := _ }) (v := ?vv11r3) rfl (by kernel_rfl) (by kernel_rfl) (by kernel_rfl) (fun _ _ _ h => h) (Or.inl ⟨by rfl, ?hy11r3⟩) (by assumption) ?rest11r3
                      case hy11r3 => ((intro w hSw; (try dsimp only at hSw); go_simp) <;> with_reducible rfl)
                      case rest11r3 =>
                        (try simp only [Act.put, List.setIfInBounds_toArray, List.set_cons_zero, List.set_cons_succ])
                        refine anyH_at #[true, true, true, true, true, true, true, true, true, true, true, true] (by kernel_rfl) ?_
                        refine wpAnyH_done (by kernel_rfl) ?_ _
                        clear hHeld
                        obtain ⟨a0, a1, a2, a3, a4, a5, a6, a7, a8⟩ := unhide HA
                        go_wp2_with fail
                        clear a0 a1 a2 a3 a4 a5 a6 a7 a8
                        refine (unhide HH _).mono ?_
                        rintro _ w3 ⟨rfl, hbl⟩
                        have HB := hide (bthen (unhide HB) hbl)
                        have HA := hide ((unhide HA).below hbl)
                        clear hbl
                        obtain ⟨a0, a1, a2, a3, a4, a5, a6, a7, a8⟩ := unhide HA
                        go_wp2_with fail
                        refine (unhide HF _).mono ?_
                        rintro _ w4 ⟨rfl, hbl⟩
                        have HB := hide (bthen (unhide HB) hbl)
                        clear hbl
                        go_wp2_with fail
                        go_ret
                        exact ⟨rfl, unhide HB⟩

set_option maxRecDepth 100000 in
set_option maxHeartbeats 4000000 in
theorem nearest_ln {h l E w f L M V T Nn s hb0 : Int} {n m lost : Bool} (W : World) (HN : Hid (∀ W, Calls Try.prog 69 #[.agg #[.bool n, .int .u64 h, .int .u64 l, .int .i64 E, .bool m]] W fun r W' => r = .returned (.bool false) ∧ Below W.heap.size W W')) (HT : Hid (∀ W, Calls Try.prog 70 #[.agg #[.bool n, .int .u64 h, .int .u64 l, .int .i64 E, .bool m]] W fun r W' => r = .returned (.int .i64 T) ∧ Below W.heap.size W W')) (kt : IntKind.i64.wrap (T - f) = T - f) (xm : T - f < L)
    (kN : Nn / 2 = s) (ka : bits .and .u64 Nn 1 = hb0) (kh : (hb0 == 1) = false)
    (HH : Hid (∀ W, Calls Try.prog 71 #[.agg #[.bool n, .int .u64 h, .int .u64 l, .int .i64 E, .bool m], .int .i64 L] W fun r W' => r = .returned (.tuple #[.int .u64 Nn, .bool lost]) ∧ Below W.heap.size W W')) (HF : Hid (∀ W, Calls Try.prog 72 #[.agg #[.bool n, .int .u64 h, .int .u64 l, .int .i64 E, .bool m, .int .i64 w, .int .i64 f, .int .i64 L, .int .i64 M], .int .u64 s, .int .i64 L] W fun r W' => r = .returned (.int .u64 V) ∧ Below W.heap.size W W')) :
    Calls Try.prog 60 #[.agg #[.bool n, .int .u64 h, .int .u64 l, .int .i64 E, .bool m, .int .i64 w, .int .i64 f, .int .i64 L, .int .i64 M]] W fun r W' => r = .returned (.int .u64 V) ∧ Below W.heap.size W W' := by
  go_enter Try.func60, Try.ntmps60
  go_wp2_with fail
  refine (unhide HN _).mono ?_
  rintro _ w1 ⟨rfl, hb⟩
  have HA := hide ((at9_new W _ _ _ _ _ _ _ _ _ 77).below hb)
  have HB := hide (bthen (below1 _ _) hb)
  clear hb
  go_wp2_with fail
  have HB := hide (unhide HB).drew
  have HA := hide ((unhide HA).below ((Below.refl _ _).drew))
  refine wp_region_held_drew (S := fun w' => w'.cell? ⟨W.heap.size, 0, none⟩ = some (.bool n) ∧ w'.cell? ⟨W.heap.size, 1, none⟩ = some (.int .u64 h) ∧ w'.cell? ⟨W.heap.size, 2, none⟩ = some (.int .u64 l) ∧ w'.cell? ⟨W.heap.size, 3, none⟩ = some (.int .i64 E) ∧ w'.cell? ⟨W.heap.size, 4, none⟩ = some (.bool m) ∧ w'.cell? ⟨W.heap.size, 5, none⟩ = some (.int .i64 w) ∧ w'.cell? ⟨W.heap.size, 6, none⟩ = some (.int .i64 f) ∧ w'.cell? ⟨W.heap.size, 7, none⟩ = some (.int .i64 L) ∧ w'.cell? ⟨W.heap.size, 8, none⟩ = some (.int .i64 M)) (by kernel_rfl) ?_ (fun hHeld => ?_)
  · (try dsimp only)
    exact unhide HA
  refine anyH_at #[false, false, false, false, false, false, false, false, false, false, false, false] (by kernel_rfl) ?_
  refine wpAnyH_take (i := 0) (oi := { dst := some 18, op := _, type := _, pos := _, after := _, guard := _ }) (v := ?vv0r3) rfl (by kernel_rfl) (by kernel_rfl) (by kernel_rfl) (fun _ _ _ h => h) (Or.inl ⟨by rfl, ?hy0r3⟩) (by assumption) ?rest0r3
  case hy0r3 => ((intro w hSw; (try dsimp only at hSw); go_simp) <;> with_reducible rfl)
  case rest0r3 =>
    (try simp only [Act.put, List.setIfInBounds_toArray, List.set_cons_zero, List.set_cons_succ])
    refine anyH_at #[true, false, false, false, false, false, false, false, false, false, false, false] (by kernel_rfl) ?_
    refine wpAnyH_take (i := 1) (oi := { dst := some 19, op := _, type := _, pos := _, after := _, guard := _ }) (v := ?vv1r3) rfl (by kernel_rfl) (by kernel_rfl) (by kernel_rfl) (fun _ _ _ h => h) (Or.inl ⟨by rfl, ?hy1r3⟩) (by assumption) ?rest1r3
    case hy1r3 => ((intro w hSw; (try dsimp only at hSw); go_simp) <;> with_reducible rfl)
    case rest1r3 =>
      (try simp only [Act.put, List.setIfInBounds_toArray, List.set_cons_zero, List.set_cons_succ])
      refine anyH_at #[true, true, false, false, false, false, false, false, false, false, false, false] (by kernel_rfl) ?_
      refine wpAnyH_take (i := 3) (oi := { dst := some 21, op := _, type := _, pos := _, after := _, guard := _ }) (v := ?vv3r3) rfl (by kernel_rfl) (by kernel_rfl) (by kernel_rfl) (fun _ _ _ h => h) (Or.inl ⟨by rfl, ?hy3r3⟩) (by assumption) ?rest3r3
      case hy3r3 => ((intro w hSw; (try dsimp only at hSw); go_simp) <;> with_reducible rfl)
      case rest3r3 =>
        (try simp only [Act.put, List.setIfInBounds_toArray, List.set_cons_zero, List.set_cons_succ])
        refine anyH_at #[true, true, false, true, false, false, false, false, false, false, false, false] (by kernel_rfl) ?_
        refine wpAnyH_take (i := 4) (oi := { dst := some 22, op := _, type := _, pos := _, after := _, guard := _ }) (v := ?vv4r3) rfl (by kernel_rfl) (by kernel_rfl) (by kernel_rfl) (fun _ _ _ h => h) (Or.inl ⟨by rfl, ?hy4r3⟩) (by assumption) ?rest4r3
        case hy4r3 => ((intro w hSw; (try dsimp only at hSw); go_simp) <;> with_reducible rfl)
        case rest4r3 =>
          (try simp only [Act.put, List.setIfInBounds_toArray, List.set_cons_zero, List.set_cons_succ])
          refine anyH_at #[true, true, false, true, true, false, false, false, false, false, false, false] (by kernel_rfl) ?_
          refine wpAnyH_take (i := 5) (oi := { dst := some 23, op := _, type := _, pos := _, after := _, guard := _ }) (v := ?vv5r3) rfl (by kernel_rfl) (by kernel_rfl) (by kernel_rfl) (fun _ _ _ h => h) (Or.inl ⟨by rfl, ?hy5r3⟩) (by assumption) ?rest5r3
          case hy5r3 => ((intro w hSw; (try dsimp only at hSw); go_simp) <;> with_reducible rfl)
          case rest5r3 =>
            (try simp only [Act.put, List.setIfInBounds_toArray, List.set_cons_zero, List.set_cons_succ])
            refine anyH_at #[true, true, false, true, true, true, false, false, false, false, false, false] (by kernel_rfl) ?_
            refine wpAnyH_take (i := 7) (oi := { dst := some 25, op := _, type := _, pos := _, after := _, guard := _ }) (v := ?vv7r3) rfl (by kernel_rfl) (by kernel_rfl) (by kernel_rfl) (fun _ _ _ h => h) (Or.inl ⟨by rfl, ?hy7r3⟩) (by assumption) ?rest7r3
            case hy7r3 => ((intro w hSw; (try dsimp only at hSw); go_simp) <;> with_reducible rfl)
            case rest7r3 =>
              (try simp only [Act.put, List.setIfInBounds_toArray, List.set_cons_zero, List.set_cons_succ])
              refine anyH_at #[true, true, false, true, true, true, false, true, false, false, false, false] (by kernel_rfl) ?_
              refine wpAnyH_take (i := 8) (oi := { dst := some 26, op := _, type := _, pos := _, after := _, guard := _ }) (v := ?vv8r3) rfl (by kernel_rfl) (by kernel_rfl) (by kernel_rfl) (fun _ _ _ h => h) (Or.inl ⟨by rfl, ?hy8r3⟩) (by assumption) ?rest8r3
              case hy8r3 => ((intro w hSw; (try dsimp only at hSw); go_simp) <;> with_reducible rfl)
              case rest8r3 =>
                (try simp only [Act.put, List.setIfInBounds_toArray, List.set_cons_zero, List.set_cons_succ])
                refine anyH_at #[true, true, false, true, true, true, false, true, true, false, false, false] (by kernel_rfl) ?_
                refine wpAnyH_take (i := 9) (oi := { dst := some 27, op := _, type := _, pos := _, after := _, guard := _ }) (v := ?vv9r3) rfl (by kernel_rfl) (by kernel_rfl) (by kernel_rfl) (fun _ _ _ h => h) (Or.inl ⟨by rfl, ?hy9r3⟩) (by assumption) ?rest9r3
                case hy9r3 => ((intro w hSw; (try dsimp only at hSw); go_simp) <;> with_reducible rfl)
                case rest9r3 =>
                  (try simp only [Act.put, List.setIfInBounds_toArray, List.set_cons_zero, List.set_cons_succ])
                  refine anyH_at #[true, true, false, true, true, true, false, true, true, true, false, false] (by kernel_rfl) ?_
                  refine wpAnyH_ready (rs := [2]) (by kernel_rfl) (by simp) ?_
                  refine AllReadyH.cons (o := { dst := some 20, op := _, type := _, pos := _, after := _, guard := _ }) rfl (fun Kk hKk => ?_) AllReadyH.nil
                  go_simp
                  refine (unhide HT _).mono ?_
                  rintro _ w2 ⟨rfl, hbl⟩
                  have HB := hide (bthen (unhide HB) hbl)
                  have HA := hide ((unhide HA).below hbl)
                  clear hbl
                  (try go_wp2_with fail)
                  refine hKk.out _ _ ?_ (fun hHeld => ?_)
                  · (try dsimp only)
                    exact unhide HA
                  clear hKk Kk
                  (try simp only [List.setIfInBounds_toArray, List.set_cons_zero, List.set_cons_succ])
                  refine anyH_at #[true, true, true, true, true, true, false, true, true, true, false, false] (by kernel_rfl) ?_
                  refine wpAnyH_take (i := 6) (oi := { dst := some 24, op := _, type := _, pos := _, after := _, guard := _ }) (v := ?vv6r3) rfl (by kernel_rfl) (by kernel_rfl) (by kernel_rfl) (fun _ _ _ h => h) (Or.inl ⟨by rfl, ?hy6r3⟩) (by assumption) ?rest6r3
                  case hy6r3 => ((intro w hSw; (try dsimp only at hSw); go_simp) <;> with_reducible rfl)
                  case rest6r3 =>
                    (try simp only [Act.put, List.setIfInBounds_toArray, List.set_cons_zero, List.set_cons_succ])
                    refine anyH_at #[true, true, true, true, true, true, true, true, true, true, false, false] (by kernel_rfl) ?_
                    refine wpAnyH_take (i := 10) (oi := { dst := some 28, op := _, type := _, pos := _, after := _, guard := _ }) (v := ?vv10r3) rfl (by kernel_rfl) (by kernel_rfl) (by kernel_rfl) (fun _ _ _ h => h) (Or.inl ⟨by rfl, ?hy10r3⟩) (by assumption) ?rest10r3
                    case hy10r3 => ((intro w hSw; (try dsimp only at hSw); go_simp) <;> with_reducible rfl)
                    case rest10r3 =>
                      (try simp only [Act.put, List.setIfInBounds_toArray, List.set_cons_zero, List.set_cons_succ])
                      refine anyH_at #[true, true, true, true, true, true, true, true, true, true, true, false] (by kernel_rfl) ?_
                      refine wpAnyH_take (i := 11) (oi := { dst := some 3, op := _, type := _, pos := _, after := _, guard := _ }) (v := ?vv11r3) rfl (by kernel_rfl) (by kernel_rfl) (by kernel_rfl) (fun _ _ _ h => h) (Or.inl ⟨by rfl, ?hy11r3⟩) (by assumption) ?rest11r3
                      case hy11r3 => ((intro w hSw; (try dsimp only at hSw); go_simp) <;> with_reducible rfl)
                      case rest11r3 =>
                        (try simp only [Act.put, List.setIfInBounds_toArray, List.set_cons_zero, List.set_cons_succ])
                        refine anyH_at #[true, true, true, true, true, true, true, true, true, true, true, true] (by kernel_rfl) ?_
                        refine wpAnyH_done (by kernel_rfl) ?_ _
                        clear hHeld
                        obtain ⟨a0, a1, a2, a3, a4, a5, a6, a7, a8⟩ := unhide HA
                        go_wp2_with fail
                        clear a0 a1 a2 a3 a4 a5 a6 a7 a8
                        refine (unhide HH _).mono ?_
                        rintro _ w3 ⟨rfl, hbl⟩
                        have HB := hide (bthen (unhide HB) hbl)
                        have HA := hide ((unhide HA).below hbl)
                        clear hbl
                        obtain ⟨a0, a1, a2, a3, a4, a5, a6, a7, a8⟩ := unhide HA
                        go_wp2_with fail
                        refine (unhide HF _).mono ?_
                        rintro _ w4 ⟨rfl, hbl⟩
                        have HB := hide (bthen (unhide HB) hbl)
                        clear hbl
                        go_wp2_with fail
                        go_ret
                        exact ⟨rfl, unhide HB⟩

set_option maxRecDepth 100000 in
set_option maxHeartbeats 4000000 in
theorem nearest_lu {h l E w f L M V T Nn s hb0 : Int} {n m : Bool} (W : World) (HN : Hid (∀ W, Calls Try.prog 69 #[.agg #[.bool n, .int .u64 h, .int .u64 l, .int .i64 E, .bool m]] W fun r W' => r = .returned (.bool false) ∧ Below W.heap.size W W')) (HT : Hid (∀ W, Calls Try.prog 70 #[.agg #[.bool n, .int .u64 h, .int .u64 l, .int .i64 E, .bool m]] W fun r W' => r = .returned (.int .i64 T) ∧ Below W.heap.size W W')) (kt : IntKind.i64.wrap (T - f) = T - f) (xm : T - f < L)
    (kN : Nn / 2 = s) (ka : bits .and .u64 Nn 1 = hb0) (kh : (hb0 == 1) = true) (kw : IntKind.u64.wrap (s + 1) = s + 1)
    (HH : Hid (∀ W, Calls Try.prog 71 #[.agg #[.bool n, .int .u64 h, .int .u64 l, .int .i64 E, .bool m], .int .i64 L] W fun r W' => r = .returned (.tuple #[.int .u64 Nn, .bool true]) ∧ Below W.heap.size W W')) (HF : Hid (∀ W, Calls Try.prog 72 #[.agg #[.bool n, .int .u64 h, .int .u64 l, .int .i64 E, .bool m, .int .i64 w, .int .i64 f, .int .i64 L, .int .i64 M], .int .u64 (s + 1), .int .i64 L] W fun r W' => r = .returned (.int .u64 V) ∧ Below W.heap.size W W')) :
    Calls Try.prog 60 #[.agg #[.bool n, .int .u64 h, .int .u64 l, .int .i64 E, .bool m, .int .i64 w, .int .i64 f, .int .i64 L, .int .i64 M]] W fun r W' => r = .returned (.int .u64 V) ∧ Below W.heap.size W W' := by
  go_enter Try.func60, Try.ntmps60
  go_wp2_with fail
  refine (unhide HN _).mono ?_
  rintro _ w1 ⟨rfl, hb⟩
  have HA := hide ((at9_new W _ _ _ _ _ _ _ _ _ 77).below hb)
  have HB := hide (bthen (below1 _ _) hb)
  clear hb
  go_wp2_with fail
  have HB := hide (unhide HB).drew
  have HA := hide ((unhide HA).below ((Below.refl _ _).drew))
  refine wp_region_held_drew (S := fun w' => w'.cell? ⟨W.heap.size, 0, none⟩ = some (.bool n) ∧ w'.cell? ⟨W.heap.size, 1, none⟩ = some (.int .u64 h) ∧ w'.cell? ⟨W.heap.size, 2, none⟩ = some (.int .u64 l) ∧ w'.cell? ⟨W.heap.size, 3, none⟩ = some (.int .i64 E) ∧ w'.cell? ⟨W.heap.size, 4, none⟩ = some (.bool m) ∧ w'.cell? ⟨W.heap.size, 5, none⟩ = some (.int .i64 w) ∧ w'.cell? ⟨W.heap.size, 6, none⟩ = some (.int .i64 f) ∧ w'.cell? ⟨W.heap.size, 7, none⟩ = some (.int .i64 L) ∧ w'.cell? ⟨W.heap.size, 8, none⟩ = some (.int .i64 M)) (by kernel_rfl) ?_ (fun hHeld => ?_)
  · (try dsimp only)
    exact unhide HA
  refine anyH_at #[false, false, false, false, false, false, false, false, false, false, false, false] (by kernel_rfl) ?_
  refine wpAnyH_take (i := 0) (oi := { dst := some 18, op := _, type := _, pos := _, after := _, guard := _ }) (v := ?vv0r3) rfl (by kernel_rfl) (by kernel_rfl) (by kernel_rfl) (fun _ _ _ h => h) (Or.inl ⟨by rfl, ?hy0r3⟩) (by assumption) ?rest0r3
  case hy0r3 => ((intro w hSw; (try dsimp only at hSw); go_simp) <;> with_reducible rfl)
  case rest0r3 =>
    (try simp only [Act.put, List.setIfInBounds_toArray, List.set_cons_zero, List.set_cons_succ])
    refine anyH_at #[true, false, false, false, false, false, false, false, false, false, false, false] (by kernel_rfl) ?_
    refine wpAnyH_take (i := 1) (oi := { dst := some 19, op := _, type := _, pos := _, after := _, guard := _ }) (v := ?vv1r3) rfl (by kernel_rfl) (by kernel_rfl) (by kernel_rfl) (fun _ _ _ h => h) (Or.inl ⟨by rfl, ?hy1r3⟩) (by assumption) ?rest1r3
    case hy1r3 => ((intro w hSw; (try dsimp only at hSw); go_simp) <;> with_reducible rfl)
    case rest1r3 =>
      (try simp only [Act.put, List.setIfInBounds_toArray, List.set_cons_zero, List.set_cons_succ])
      refine anyH_at #[true, true, false, false, false, false, false, false, false, false, false, false] (by kernel_rfl) ?_
      refine wpAnyH_take (i := 3) (oi := { dst := some 21, op := _, type := _, pos := _, after := _, guard := _ }) (v := ?vv3r3) rfl (by kernel_rfl) (by kernel_rfl) (by kernel_rfl) (fun _ _ _ h => h) (Or.inl ⟨by rfl, ?hy3r3⟩) (by assumption) ?rest3r3
      case hy3r3 => ((intro w hSw; (try dsimp only at hSw); go_simp) <;> with_reducible rfl)
      case rest3r3 =>
        (try simp only [Act.put, List.setIfInBounds_toArray, List.set_cons_zero, List.set_cons_succ])
        refine anyH_at #[true, true, false, true, false, false, false, false, false, false, false, false] (by kernel_rfl) ?_
        refine wpAnyH_take (i := 4) (oi := { dst := some 22, op := _, type := _, pos := _, after := _, guard := _ }) (v := ?vv4r3) rfl (by kernel_rfl) (by kernel_rfl) (by kernel_rfl) (fun _ _ _ h => h) (Or.inl ⟨by rfl, ?hy4r3⟩) (by assumption) ?rest4r3
        case hy4r3 => ((intro w hSw; (try dsimp only at hSw); go_simp) <;> with_reducible rfl)
        case rest4r3 =>
          (try simp only [Act.put, List.setIfInBounds_toArray, List.set_cons_zero, List.set_cons_succ])
          refine anyH_at #[true, true, false, true, true, false, false, false, false, false, false, false] (by kernel_rfl) ?_
          refine wpAnyH_take (i := 5) (oi := { dst := some 23, op := _, type := _, pos := _, after := _, guard := _ }) (v := ?vv5r3) rfl (by kernel_rfl) (by kernel_rfl) (by kernel_rfl) (fun _ _ _ h => h) (Or.inl ⟨by rfl, ?hy5r3⟩) (by assumption) ?rest5r3
          case hy5r3 => ((intro w hSw; (try dsimp only at hSw); go_simp) <;> with_reducible rfl)
          case rest5r3 =>
            (try simp only [Act.put, List.setIfInBounds_toArray, List.set_cons_zero, List.set_cons_succ])
            refine anyH_at #[true, true, false, true, true, true, false, false, false, false, false, false] (by kernel_rfl) ?_
            refine wpAnyH_take (i := 7) (oi := { dst := some 25, op := _, type := _, pos := _, after := _, guard := _ }) (v := ?vv7r3) rfl (by kernel_rfl) (by kernel_rfl) (by kernel_rfl) (fun _ _ _ h => h) (Or.inl ⟨by rfl, ?hy7r3⟩) (by assumption) ?rest7r3
            case hy7r3 => ((intro w hSw; (try dsimp only at hSw); go_simp) <;> with_reducible rfl)
            case rest7r3 =>
              (try simp only [Act.put, List.setIfInBounds_toArray, List.set_cons_zero, List.set_cons_succ])
              refine anyH_at #[true, true, false, true, true, true, false, true, false, false, false, false] (by kernel_rfl) ?_
              refine wpAnyH_take (i := 8) (oi := { dst := some 26, op := _, type := _, pos := _, after := _, guard := _ }) (v := ?vv8r3) rfl (by kernel_rfl) (by kernel_rfl) (by kernel_rfl) (fun _ _ _ h => h) (Or.inl ⟨by rfl, ?hy8r3⟩) (by assumption) ?rest8r3
              case hy8r3 => ((intro w hSw; (try dsimp only at hSw); go_simp) <;> with_reducible rfl)
              case rest8r3 =>
                (try simp only [Act.put, List.setIfInBounds_toArray, List.set_cons_zero, List.set_cons_succ])
                refine anyH_at #[true, true, false, true, true, true, false, true, true, false, false, false] (by kernel_rfl) ?_
                refine wpAnyH_take (i := 9) (oi := { dst := some 27, op := _, type := _, pos := _, after := _, guard := _ }) (v := ?vv9r3) rfl (by kernel_rfl) (by kernel_rfl) (by kernel_rfl) (fun _ _ _ h => h) (Or.inl ⟨by rfl, ?hy9r3⟩) (by assumption) ?rest9r3
                case hy9r3 => ((intro w hSw; (try dsimp only at hSw); go_simp) <;> with_reducible rfl)
                case rest9r3 =>
                  (try simp only [Act.put, List.setIfInBounds_toArray, List.set_cons_zero, List.set_cons_succ])
                  refine anyH_at #[true, true, false, true, true, true, false, true, true, true, false, false] (by kernel_rfl) ?_
                  refine wpAnyH_ready (rs := [2]) (by kernel_rfl) (by simp) ?_
                  refine AllReadyH.cons (o := { dst := some 20, op := _, type := _, pos := _, after := _, guard := _ }) rfl (fun Kk hKk => ?_) AllReadyH.nil
                  go_simp
                  refine (unhide HT _).mono ?_
                  rintro _ w2 ⟨rfl, hbl⟩
                  have HB := hide (bthen (unhide HB) hbl)
                  have HA := hide ((unhide HA).below hbl)
                  clear hbl
                  (try go_wp2_with fail)
                  refine hKk.out _ _ ?_ (fun hHeld => ?_)
                  · (try dsimp only)
                    exact unhide HA
                  clear hKk Kk
                  (try simp only [List.setIfInBounds_toArray, List.set_cons_zero, List.set_cons_succ])
                  refine anyH_at #[true, true, true, true, true, true, false, true, true, true, false, false] (by kernel_rfl) ?_
                  refine wpAnyH_take (i := 6) (oi := { dst := some 24, op := _, type := _, pos := _, after := _, guard := _ }) (v := ?vv6r3) rfl (by kernel_rfl) (by kernel_rfl) (by kernel_rfl) (fun _ _ _ h => h) (Or.inl ⟨by rfl, ?hy6r3⟩) (by assumption) ?rest6r3
                  case hy6r3 => ((intro w hSw; (try dsimp only at hSw); go_simp) <;> with_reducible rfl)
                  case rest6r3 =>
                    (try simp only [Act.put, List.setIfInBounds_toArray, List.set_cons_zero, List.set_cons_succ])
                    refine anyH_at #[true, true, true, true, true, true, true, true, true, true, false, false] (by kernel_rfl) ?_
                    refine wpAnyH_take (i := 10) (oi := { dst := some 28, op := _, type := _, pos := _, after := _, guard := _ }) (v := ?vv10r3) rfl (by kernel_rfl) (by kernel_rfl) (by kernel_rfl) (fun _ _ _ h => h) (Or.inl ⟨by rfl, ?hy10r3⟩) (by assumption) ?rest10r3
                    case hy10r3 => ((intro w hSw; (try dsimp only at hSw); go_simp) <;> with_reducible rfl)
                    case rest10r3 =>
                      (try simp only [Act.put, List.setIfInBounds_toArray, List.set_cons_zero, List.set_cons_succ])
                      refine anyH_at #[true, true, true, true, true, true, true, true, true, true, true, false] (by kernel_rfl) ?_
                      refine wpAnyH_take (i := 11) (oi := { dst := some 3, op := _, type := _, pos := _, after := _, guard := _ }) (v := ?vv11r3) rfl (by kernel_rfl) (by kernel_rfl) (by kernel_rfl) (fun _ _ _ h => h) (Or.inl ⟨by rfl, ?hy11r3⟩) (by assumption) ?rest11r3
                      case hy11r3 => ((intro w hSw; (try dsimp only at hSw); go_simp) <;> with_reducible rfl)
                      case rest11r3 =>
                        (try simp only [Act.put, List.setIfInBounds_toArray, List.set_cons_zero, List.set_cons_succ])
                        refine anyH_at #[true, true, true, true, true, true, true, true, true, true, true, true] (by kernel_rfl) ?_
                        refine wpAnyH_done (by kernel_rfl) ?_ _
                        clear hHeld
                        obtain ⟨a0, a1, a2, a3, a4, a5, a6, a7, a8⟩ := unhide HA
                        go_wp2_with fail
                        clear a0 a1 a2 a3 a4 a5 a6 a7 a8
                        refine (unhide HH _).mono ?_
                        rintro _ w3 ⟨rfl, hbl⟩
                        have HB := hide (bthen (unhide HB) hbl)
                        have HA := hide ((unhide HA).below hbl)
                        clear hbl
                        obtain ⟨a0, a1, a2, a3, a4, a5, a6, a7, a8⟩ := unhide HA
                        go_wp2_with fail
                        refine (unhide HF _).mono ?_
                        rintro _ w4 ⟨rfl, hbl⟩
                        have HB := hide (bthen (unhide HB) hbl)
                        clear hbl
                        go_wp2_with fail
                        go_ret
                        exact ⟨rfl, unhide HB⟩

set_option maxRecDepth 100000 in
set_option maxHeartbeats 4000000 in
theorem nearest_lo {h l E w f L M V T Nn s hb0 ob : Int} {n m : Bool} (W : World) (HN : Hid (∀ W, Calls Try.prog 69 #[.agg #[.bool n, .int .u64 h, .int .u64 l, .int .i64 E, .bool m]] W fun r W' => r = .returned (.bool false) ∧ Below W.heap.size W W')) (HT : Hid (∀ W, Calls Try.prog 70 #[.agg #[.bool n, .int .u64 h, .int .u64 l, .int .i64 E, .bool m]] W fun r W' => r = .returned (.int .i64 T) ∧ Below W.heap.size W W')) (kt : IntKind.i64.wrap (T - f) = T - f) (xm : T - f < L)
    (kN : Nn / 2 = s) (ka : bits .and .u64 Nn 1 = hb0) (kh : (hb0 == 1) = true) (ks : bits .and .u64 s 1 = ob) (ko : (ob == 1) = true) (kw : IntKind.u64.wrap (s + 1) = s + 1)
    (HH : Hid (∀ W, Calls Try.prog 71 #[.agg #[.bool n, .int .u64 h, .int .u64 l, .int .i64 E, .bool m], .int .i64 L] W fun r W' => r = .returned (.tuple #[.int .u64 Nn, .bool false]) ∧ Below W.heap.size W W')) (HF : Hid (∀ W, Calls Try.prog 72 #[.agg #[.bool n, .int .u64 h, .int .u64 l, .int .i64 E, .bool m, .int .i64 w, .int .i64 f, .int .i64 L, .int .i64 M], .int .u64 (s + 1), .int .i64 L] W fun r W' => r = .returned (.int .u64 V) ∧ Below W.heap.size W W')) :
    Calls Try.prog 60 #[.agg #[.bool n, .int .u64 h, .int .u64 l, .int .i64 E, .bool m, .int .i64 w, .int .i64 f, .int .i64 L, .int .i64 M]] W fun r W' => r = .returned (.int .u64 V) ∧ Below W.heap.size W W' := by
  go_enter Try.func60, Try.ntmps60
  go_wp2_with fail
  refine (unhide HN _).mono ?_
  rintro _ w1 ⟨rfl, hb⟩
  have HA := hide ((at9_new W _ _ _ _ _ _ _ _ _ 77).below hb)
  have HB := hide (bthen (below1 _ _) hb)
  clear hb
  go_wp2_with fail
  have HB := hide (unhide HB).drew
  have HA := hide ((unhide HA).below ((Below.refl _ _).drew))
  refine wp_region_held_drew (S := fun w' => w'.cell? ⟨W.heap.size, 0, none⟩ = some (.bool n) ∧ w'.cell? ⟨W.heap.size, 1, none⟩ = some (.int .u64 h) ∧ w'.cell? ⟨W.heap.size, 2, none⟩ = some (.int .u64 l) ∧ w'.cell? ⟨W.heap.size, 3, none⟩ = some (.int .i64 E) ∧ w'.cell? ⟨W.heap.size, 4, none⟩ = some (.bool m) ∧ w'.cell? ⟨W.heap.size, 5, none⟩ = some (.int .i64 w) ∧ w'.cell? ⟨W.heap.size, 6, none⟩ = some (.int .i64 f) ∧ w'.cell? ⟨W.heap.size, 7, none⟩ = some (.int .i64 L) ∧ w'.cell? ⟨W.heap.size, 8, none⟩ = some (.int .i64 M)) (by kernel_rfl) ?_ (fun hHeld => ?_)
  · (try dsimp only)
    exact unhide HA
  refine anyH_at #[false, false, false, false, false, false, false, false, false, false, false, false] (by kernel_rfl) ?_
  refine wpAnyH_take (i := 0) (oi := { dst := some 18, op := _, type := _, pos := _, after := _, guard := _ }) (v := ?vv0r3) rfl (by kernel_rfl) (by kernel_rfl) (by kernel_rfl) (fun _ _ _ h => h) (Or.inl ⟨by rfl, ?hy0r3⟩) (by assumption) ?rest0r3
  case hy0r3 => ((intro w hSw; (try dsimp only at hSw); go_simp) <;> with_reducible rfl)
  case rest0r3 =>
    (try simp only [Act.put, List.setIfInBounds_toArray, List.set_cons_zero, List.set_cons_succ])
    refine anyH_at #[true, false, false, false, false, false, false, false, false, false, false, false] (by kernel_rfl) ?_
    refine wpAnyH_take (i := 1) (oi := { dst := some 19, op := _, type := _, pos := _, after := _, guard := _ }) (v := ?vv1r3) rfl (by kernel_rfl) (by kernel_rfl) (by kernel_rfl) (fun _ _ _ h => h) (Or.inl ⟨by rfl, ?hy1r3⟩) (by assumption) ?rest1r3
    case hy1r3 => ((intro w hSw; (try dsimp only at hSw); go_simp) <;> with_reducible rfl)
    case rest1r3 =>
      (try simp only [Act.put, List.setIfInBounds_toArray, List.set_cons_zero, List.set_cons_succ])
      refine anyH_at #[true, true, false, false, false, false, false, false, false, false, false, false] (by kernel_rfl) ?_
      refine wpAnyH_take (i := 3) (oi := { dst := some 21, op := _, type := _, pos := _, after := _, guard := _ }) (v := ?vv3r3) rfl (by kernel_rfl) (by kernel_rfl) (by kernel_rfl) (fun _ _ _ h => h) (Or.inl ⟨by rfl, ?hy3r3⟩) (by assumption) ?rest3r3
      case hy3r3 => ((intro w hSw; (try dsimp only at hSw); go_simp) <;> with_reducible rfl)
      case rest3r3 =>
        (try simp only [Act.put, List.setIfInBounds_toArray, List.set_cons_zero, List.set_cons_succ])
        refine anyH_at #[true, true, false, true, false, false, false, false, false, false, false, false] (by kernel_rfl) ?_
        refine wpAnyH_take (i := 4) (oi := { dst := some 22, op := _, type := _, pos := _, after := _, guard := _ }) (v := ?vv4r3) rfl (by kernel_rfl) (by kernel_rfl) (by kernel_rfl) (fun _ _ _ h => h) (Or.inl ⟨by rfl, ?hy4r3⟩) (by assumption) ?rest4r3
        case hy4r3 => ((intro w hSw; (try dsimp only at hSw); go_simp) <;> with_reducible rfl)
        case rest4r3 =>
          (try simp only [Act.put, List.setIfInBounds_toArray, List.set_cons_zero, List.set_cons_succ])
          refine anyH_at #[true, true, false, true, true, false, false, false, false, false, false, false] (by kernel_rfl) ?_
          refine wpAnyH_take (i := 5) (oi := { dst := some 23, op := _, type := _, pos := _, after := _, guard := _ }) (v := ?vv5r3) rfl (by kernel_rfl) (by kernel_rfl) (by kernel_rfl) (fun _ _ _ h => h) (Or.inl ⟨by rfl, ?hy5r3⟩) (by assumption) ?rest5r3
          case hy5r3 => ((intro w hSw; (try dsimp only at hSw); go_simp) <;> with_reducible rfl)
          case rest5r3 =>
            (try simp only [Act.put, List.setIfInBounds_toArray, List.set_cons_zero, List.set_cons_succ])
            refine anyH_at #[true, true, false, true, true, true, false, false, false, false, false, false] (by kernel_rfl) ?_
            refine wpAnyH_take (i := 7) (oi := { dst := some 25, op := _, type := _, pos := _, after := _, guard := _ }) (v := ?vv7r3) rfl (by kernel_rfl) (by kernel_rfl) (by kernel_rfl) (fun _ _ _ h => h) (Or.inl ⟨by rfl, ?hy7r3⟩) (by assumption) ?rest7r3
            case hy7r3 => ((intro w hSw; (try dsimp only at hSw); go_simp) <;> with_reducible rfl)
            case rest7r3 =>
              (try simp only [Act.put, List.setIfInBounds_toArray, List.set_cons_zero, List.set_cons_succ])
              refine anyH_at #[true, true, false, true, true, true, false, true, false, false, false, false] (by kernel_rfl) ?_
              refine wpAnyH_take (i := 8) (oi := { dst := some 26, op := _, type := _, pos := _, after := _, guard := _ }) (v := ?vv8r3) rfl (by kernel_rfl) (by kernel_rfl) (by kernel_rfl) (fun _ _ _ h => h) (Or.inl ⟨by rfl, ?hy8r3⟩) (by assumption) ?rest8r3
              case hy8r3 => ((intro w hSw; (try dsimp only at hSw); go_simp) <;> with_reducible rfl)
              case rest8r3 =>
                (try simp only [Act.put, List.setIfInBounds_toArray, List.set_cons_zero, List.set_cons_succ])
                refine anyH_at #[true, true, false, true, true, true, false, true, true, false, false, false] (by kernel_rfl) ?_
                refine wpAnyH_take (i := 9) (oi := { dst := some 27, op := _, type := _, pos := _, after := _, guard := _ }) (v := ?vv9r3) rfl (by kernel_rfl) (by kernel_rfl) (by kernel_rfl) (fun _ _ _ h => h) (Or.inl ⟨by rfl, ?hy9r3⟩) (by assumption) ?rest9r3
                case hy9r3 => ((intro w hSw; (try dsimp only at hSw); go_simp) <;> with_reducible rfl)
                case rest9r3 =>
                  (try simp only [Act.put, List.setIfInBounds_toArray, List.set_cons_zero, List.set_cons_succ])
                  refine anyH_at #[true, true, false, true, true, true, false, true, true, true, false, false] (by kernel_rfl) ?_
                  refine wpAnyH_ready (rs := [2]) (by kernel_rfl) (by simp) ?_
                  refine AllReadyH.cons (o := { dst := some 20, op := _, type := _, pos := _, after := _, guard := _ }) rfl (fun Kk hKk => ?_) AllReadyH.nil
                  go_simp
                  refine (unhide HT _).mono ?_
                  rintro _ w2 ⟨rfl, hbl⟩
                  have HB := hide (bthen (unhide HB) hbl)
                  have HA := hide ((unhide HA).below hbl)
                  clear hbl
                  (try go_wp2_with fail)
                  refine hKk.out _ _ ?_ (fun hHeld => ?_)
                  · (try dsimp only)
                    exact unhide HA
                  clear hKk Kk
                  (try simp only [List.setIfInBounds_toArray, List.set_cons_zero, List.set_cons_succ])
                  refine anyH_at #[true, true, true, true, true, true, false, true, true, true, false, false] (by kernel_rfl) ?_
                  refine wpAnyH_take (i := 6) (oi := { dst := some 24, op := _, type := _, pos := _, after := _, guard := _ }) (v := ?vv6r3) rfl (by kernel_rfl) (by kernel_rfl) (by kernel_rfl) (fun _ _ _ h => h) (Or.inl ⟨by rfl, ?hy6r3⟩) (by assumption) ?rest6r3
                  case hy6r3 => ((intro w hSw; (try dsimp only at hSw); go_simp) <;> with_reducible rfl)
                  case rest6r3 =>
                    (try simp only [Act.put, List.setIfInBounds_toArray, List.set_cons_zero, List.set_cons_succ])
                    refine anyH_at #[true, true, true, true, true, true, true, true, true, true, false, false] (by kernel_rfl) ?_
                    refine wpAnyH_take (i := 10) (oi := { dst := some 28, op := _, type := _, pos := _, after := _, guard := _ }) (v := ?vv10r3) rfl (by kernel_rfl) (by kernel_rfl) (by kernel_rfl) (fun _ _ _ h => h) (Or.inl ⟨by rfl, ?hy10r3⟩) (by assumption) ?rest10r3
                    case hy10r3 => ((intro w hSw; (try dsimp only at hSw); go_simp) <;> with_reducible rfl)
                    case rest10r3 =>
                      (try simp only [Act.put, List.setIfInBounds_toArray, List.set_cons_zero, List.set_cons_succ])
                      refine anyH_at #[true, true, true, true, true, true, true, true, true, true, true, false] (by kernel_rfl) ?_
                      refine wpAnyH_take (i := 11) (oi := { dst := some 3, op := _, type := _, pos := _, after := _, guard := _ }) (v := ?vv11r3) rfl (by kernel_rfl) (by kernel_rfl) (by kernel_rfl) (fun _ _ _ h => h) (Or.inl ⟨by rfl, ?hy11r3⟩) (by assumption) ?rest11r3
                      case hy11r3 => ((intro w hSw; (try dsimp only at hSw); go_simp) <;> with_reducible rfl)
                      case rest11r3 =>
                        (try simp only [Act.put, List.setIfInBounds_toArray, List.set_cons_zero, List.set_cons_succ])
                        refine anyH_at #[true, true, true, true, true, true, true, true, true, true, true, true] (by kernel_rfl) ?_
                        refine wpAnyH_done (by kernel_rfl) ?_ _
                        clear hHeld
                        obtain ⟨a0, a1, a2, a3, a4, a5, a6, a7, a8⟩ := unhide HA
                        go_wp2_with fail
                        clear a0 a1 a2 a3 a4 a5 a6 a7 a8
                        refine (unhide HH _).mono ?_
                        rintro _ w3 ⟨rfl, hbl⟩
                        have HB := hide (bthen (unhide HB) hbl)
                        have HA := hide ((unhide HA).below hbl)
                        clear hbl
                        obtain ⟨a0, a1, a2, a3, a4, a5, a6, a7, a8⟩ := unhide HA
                        go_wp2_with fail
                        refine (unhide HF _).mono ?_
                        rintro _ w4 ⟨rfl, hbl⟩
                        have HB := hide (bthen (unhide HB) hbl)
                        clear hbl
                        go_wp2_with fail
                        go_ret
                        exact ⟨rfl, unhide HB⟩

set_option maxRecDepth 100000 in
set_option maxHeartbeats 4000000 in
theorem nearest_le {h l E w f L M V T Nn s hb0 ob : Int} {n m : Bool} (W : World) (HN : Hid (∀ W, Calls Try.prog 69 #[.agg #[.bool n, .int .u64 h, .int .u64 l, .int .i64 E, .bool m]] W fun r W' => r = .returned (.bool false) ∧ Below W.heap.size W W')) (HT : Hid (∀ W, Calls Try.prog 70 #[.agg #[.bool n, .int .u64 h, .int .u64 l, .int .i64 E, .bool m]] W fun r W' => r = .returned (.int .i64 T) ∧ Below W.heap.size W W')) (kt : IntKind.i64.wrap (T - f) = T - f) (xm : T - f < L)
    (kN : Nn / 2 = s) (ka : bits .and .u64 Nn 1 = hb0) (kh : (hb0 == 1) = true) (ks : bits .and .u64 s 1 = ob) (ko : (ob == 1) = false)
    (HH : Hid (∀ W, Calls Try.prog 71 #[.agg #[.bool n, .int .u64 h, .int .u64 l, .int .i64 E, .bool m], .int .i64 L] W fun r W' => r = .returned (.tuple #[.int .u64 Nn, .bool false]) ∧ Below W.heap.size W W')) (HF : Hid (∀ W, Calls Try.prog 72 #[.agg #[.bool n, .int .u64 h, .int .u64 l, .int .i64 E, .bool m, .int .i64 w, .int .i64 f, .int .i64 L, .int .i64 M], .int .u64 s, .int .i64 L] W fun r W' => r = .returned (.int .u64 V) ∧ Below W.heap.size W W')) :
    Calls Try.prog 60 #[.agg #[.bool n, .int .u64 h, .int .u64 l, .int .i64 E, .bool m, .int .i64 w, .int .i64 f, .int .i64 L, .int .i64 M]] W fun r W' => r = .returned (.int .u64 V) ∧ Below W.heap.size W W' := by
  go_enter Try.func60, Try.ntmps60
  go_wp2_with fail
  refine (unhide HN _).mono ?_
  rintro _ w1 ⟨rfl, hb⟩
  have HA := hide ((at9_new W _ _ _ _ _ _ _ _ _ 77).below hb)
  have HB := hide (bthen (below1 _ _) hb)
  clear hb
  go_wp2_with fail
  have HB := hide (unhide HB).drew
  have HA := hide ((unhide HA).below ((Below.refl _ _).drew))
  refine wp_region_held_drew (S := fun w' => w'.cell? ⟨W.heap.size, 0, none⟩ = some (.bool n) ∧ w'.cell? ⟨W.heap.size, 1, none⟩ = some (.int .u64 h) ∧ w'.cell? ⟨W.heap.size, 2, none⟩ = some (.int .u64 l) ∧ w'.cell? ⟨W.heap.size, 3, none⟩ = some (.int .i64 E) ∧ w'.cell? ⟨W.heap.size, 4, none⟩ = some (.bool m) ∧ w'.cell? ⟨W.heap.size, 5, none⟩ = some (.int .i64 w) ∧ w'.cell? ⟨W.heap.size, 6, none⟩ = some (.int .i64 f) ∧ w'.cell? ⟨W.heap.size, 7, none⟩ = some (.int .i64 L) ∧ w'.cell? ⟨W.heap.size, 8, none⟩ = some (.int .i64 M)) (by kernel_rfl) ?_ (fun hHeld => ?_)
  · (try dsimp only)
    exact unhide HA
  refine anyH_at #[false, false, false, false, false, false, false, false, false, false, false, false] (by kernel_rfl) ?_
  refine wpAnyH_take (i := 0) (oi := { dst := some 18, op := _, type := _, pos := _, after := _, guard := _ }) (v := ?vv0r3) rfl (by kernel_rfl) (by kernel_rfl) (by kernel_rfl) (fun _ _ _ h => h) (Or.inl ⟨by rfl, ?hy0r3⟩) (by assumption) ?rest0r3
  case hy0r3 => ((intro w hSw; (try dsimp only at hSw); go_simp) <;> with_reducible rfl)
  case rest0r3 =>
    (try simp only [Act.put, List.setIfInBounds_toArray, List.set_cons_zero, List.set_cons_succ])
    refine anyH_at #[true, false, false, false, false, false, false, false, false, false, false, false] (by kernel_rfl) ?_
    refine wpAnyH_take (i := 1) (oi := { dst := some 19, op := _, type := _, pos := _, after := _, guard := _ }) (v := ?vv1r3) rfl (by kernel_rfl) (by kernel_rfl) (by kernel_rfl) (fun _ _ _ h => h) (Or.inl ⟨by rfl, ?hy1r3⟩) (by assumption) ?rest1r3
    case hy1r3 => ((intro w hSw; (try dsimp only at hSw); go_simp) <;> with_reducible rfl)
    case rest1r3 =>
      (try simp only [Act.put, List.setIfInBounds_toArray, List.set_cons_zero, List.set_cons_succ])
      refine anyH_at #[true, true, false, false, false, false, false, false, false, false, false, false] (by kernel_rfl) ?_
      refine wpAnyH_take (i := 3) (oi := { dst := some 21, op := _, type := _, pos := _, after := _, guard := _ }) (v := ?vv3r3) rfl (by kernel_rfl) (by kernel_rfl) (by kernel_rfl) (fun _ _ _ h => h) (Or.inl ⟨by rfl, ?hy3r3⟩) (by assumption) ?rest3r3
      case hy3r3 => ((intro w hSw; (try dsimp only at hSw); go_simp) <;> with_reducible rfl)
      case rest3r3 =>
        (try simp only [Act.put, List.setIfInBounds_toArray, List.set_cons_zero, List.set_cons_succ])
        refine anyH_at #[true, true, false, true, false, false, false, false, false, false, false, false] (by kernel_rfl) ?_
        refine wpAnyH_take (i := 4) (oi := { dst := some 22, op := _, type := _, pos := _, after := _, guard := _ }) (v := ?vv4r3) rfl (by kernel_rfl) (by kernel_rfl) (by kernel_rfl) (fun _ _ _ h => h) (Or.inl ⟨by rfl, ?hy4r3⟩) (by assumption) ?rest4r3
        case hy4r3 => ((intro w hSw; (try dsimp only at hSw); go_simp) <;> with_reducible rfl)
        case rest4r3 =>
          (try simp only [Act.put, List.setIfInBounds_toArray, List.set_cons_zero, List.set_cons_succ])
          refine anyH_at #[true, true, false, true, true, false, false, false, false, false, false, false] (by kernel_rfl) ?_
          refine wpAnyH_take (i := 5) (oi := { dst := some 23, op := _, type := _, pos := _, after := _, guard := _ }) (v := ?vv5r3) rfl (by kernel_rfl) (by kernel_rfl) (by kernel_rfl) (fun _ _ _ h => h) (Or.inl ⟨by rfl, ?hy5r3⟩) (by assumption) ?rest5r3
          case hy5r3 => ((intro w hSw; (try dsimp only at hSw); go_simp) <;> with_reducible rfl)
          case rest5r3 =>
            (try simp only [Act.put, List.setIfInBounds_toArray, List.set_cons_zero, List.set_cons_succ])
            refine anyH_at #[true, true, false, true, true, true, false, false, false, false, false, false] (by kernel_rfl) ?_
            refine wpAnyH_take (i := 7) (oi := { dst := some 25, op := _, type := _, pos := _, after := _, guard := _ }) (v := ?vv7r3) rfl (by kernel_rfl) (by kernel_rfl) (by kernel_rfl) (fun _ _ _ h => h) (Or.inl ⟨by rfl, ?hy7r3⟩) (by assumption) ?rest7r3
            case hy7r3 => ((intro w hSw; (try dsimp only at hSw); go_simp) <;> with_reducible rfl)
            case rest7r3 =>
              (try simp only [Act.put, List.setIfInBounds_toArray, List.set_cons_zero, List.set_cons_succ])
              refine anyH_at #[true, true, false, true, true, true, false, true, false, false, false, false] (by kernel_rfl) ?_
              refine wpAnyH_take (i := 8) (oi := { dst := some 26, op := _, type := _, pos := _, after := _, guard := _ }) (v := ?vv8r3) rfl (by kernel_rfl) (by kernel_rfl) (by kernel_rfl) (fun _ _ _ h => h) (Or.inl ⟨by rfl, ?hy8r3⟩) (by assumption) ?rest8r3
              case hy8r3 => ((intro w hSw; (try dsimp only at hSw); go_simp) <;> with_reducible rfl)
              case rest8r3 =>
                (try simp only [Act.put, List.setIfInBounds_toArray, List.set_cons_zero, List.set_cons_succ])
                refine anyH_at #[true, true, false, true, true, true, false, true, true, false, false, false] (by kernel_rfl) ?_
                refine wpAnyH_take (i := 9) (oi := { dst := some 27, op := _, type := _, pos := _, after := _, guard := _ }) (v := ?vv9r3) rfl (by kernel_rfl) (by kernel_rfl) (by kernel_rfl) (fun _ _ _ h => h) (Or.inl ⟨by rfl, ?hy9r3⟩) (by assumption) ?rest9r3
                case hy9r3 => ((intro w hSw; (try dsimp only at hSw); go_simp) <;> with_reducible rfl)
                case rest9r3 =>
                  (try simp only [Act.put, List.setIfInBounds_toArray, List.set_cons_zero, List.set_cons_succ])
                  refine anyH_at #[true, true, false, true, true, true, false, true, true, true, false, false] (by kernel_rfl) ?_
                  refine wpAnyH_ready (rs := [2]) (by kernel_rfl) (by simp) ?_
                  refine AllReadyH.cons (o := { dst := some 20, op := _, type := _, pos := _, after := _, guard := _ }) rfl (fun Kk hKk => ?_) AllReadyH.nil
                  go_simp
                  refine (unhide HT _).mono ?_
                  rintro _ w2 ⟨rfl, hbl⟩
                  have HB := hide (bthen (unhide HB) hbl)
                  have HA := hide ((unhide HA).below hbl)
                  clear hbl
                  (try go_wp2_with fail)
                  refine hKk.out _ _ ?_ (fun hHeld => ?_)
                  · (try dsimp only)
                    exact unhide HA
                  clear hKk Kk
                  (try simp only [List.setIfInBounds_toArray, List.set_cons_zero, List.set_cons_succ])
                  refine anyH_at #[true, true, true, true, true, true, false, true, true, true, false, false] (by kernel_rfl) ?_
                  refine wpAnyH_take (i := 6) (oi := { dst := some 24, op := _, type := _, pos := _, after := _, guard := _ }) (v := ?vv6r3) rfl (by kernel_rfl) (by kernel_rfl) (by kernel_rfl) (fun _ _ _ h => h) (Or.inl ⟨by rfl, ?hy6r3⟩) (by assumption) ?rest6r3
                  case hy6r3 => ((intro w hSw; (try dsimp only at hSw); go_simp) <;> with_reducible rfl)
                  case rest6r3 =>
                    (try simp only [Act.put, List.setIfInBounds_toArray, List.set_cons_zero, List.set_cons_succ])
                    refine anyH_at #[true, true, true, true, true, true, true, true, true, true, false, false] (by kernel_rfl) ?_
                    refine wpAnyH_take (i := 10) (oi := { dst := some 28, op := _, type := _, pos := _, after := _, guard := _ }) (v := ?vv10r3) rfl (by kernel_rfl) (by kernel_rfl) (by kernel_rfl) (fun _ _ _ h => h) (Or.inl ⟨by rfl, ?hy10r3⟩) (by assumption) ?rest10r3
                    case hy10r3 => ((intro w hSw; (try dsimp only at hSw); go_simp) <;> with_reducible rfl)
                    case rest10r3 =>
                      (try simp only [Act.put, List.setIfInBounds_toArray, List.set_cons_zero, List.set_cons_succ])
                      refine anyH_at #[true, true, true, true, true, true, true, true, true, true, true, false] (by kernel_rfl) ?_
                      refine wpAnyH_take (i := 11) (oi := { dst := some 3, op := _, type := _, pos := _, after := _, guard := _ }) (v := ?vv11r3) rfl (by kernel_rfl) (by kernel_rfl) (by kernel_rfl) (fun _ _ _ h => h) (Or.inl ⟨by rfl, ?hy11r3⟩) (by assumption) ?rest11r3
                      case hy11r3 => ((intro w hSw; (try dsimp only at hSw); go_simp) <;> with_reducible rfl)
                      case rest11r3 =>
                        (try simp only [Act.put, List.setIfInBounds_toArray, List.set_cons_zero, List.set_cons_succ])
                        refine anyH_at #[true, true, true, true, true, true, true, true, true, true, true, true] (by kernel_rfl) ?_
                        refine wpAnyH_done (by kernel_rfl) ?_ _
                        clear hHeld
                        obtain ⟨a0, a1, a2, a3, a4, a5, a6, a7, a8⟩ := unhide HA
                        go_wp2_with fail
                        clear a0 a1 a2 a3 a4 a5 a6 a7 a8
                        refine (unhide HH _).mono ?_
                        rintro _ w3 ⟨rfl, hbl⟩
                        have HB := hide (bthen (unhide HB) hbl)
                        have HA := hide ((unhide HA).below hbl)
                        clear hbl
                        obtain ⟨a0, a1, a2, a3, a4, a5, a6, a7, a8⟩ := unhide HA
                        go_wp2_with fail
                        refine (unhide HF _).mono ?_
                        rintro _ w4 ⟨rfl, hbl⟩
                        have HB := hide (bthen (unhide HB) hbl)
                        clear hbl
                        go_wp2_with fail
                        go_ret
                        exact ⟨rfl, unhide HB⟩

end Go.Proofs.Yticbhdgamblmbaa
