/- The statement RoundWholes: its walk. -/
import Derived.Test.YtiklaalcmfkddaaWhole
import Derived.Test.YtiklaalcmfkddaaWRefA
namespace Go.Proofs.Ytiklaalcmfkddaa
open Go.RowKit
open Go.Proofs.Ytiklaalcmfkddaa.W

set_option maxRecDepth 100000 in
set_option maxHeartbeats 4000000 in
theorem wholes_no {w x K X S : Int} {n : Bool} (W : World) (H1 : Hid (∀ W, Calls Try.prog 11 #[.int .i64 w, .bool true, .int .u64 x] W fun r W' => r = .returned (.int .u64 0) ∧ Below W.heap.size W W')) (H2 : Hid (∀ W, Calls Try.prog 11 #[.int .i64 w, .bool false, .int .u64 x] W fun r W' => r = .returned (.int .u64 0) ∧ Below W.heap.size W W'))
    (H3 : Hid (∀ W, Calls Try.prog 12 #[.int .i64 w, .agg #[.bool n, .int .i64 K, .int .i64 X, .int .u64 S]] W fun r W' => r = .returned (.int .u64 0) ∧ Below W.heap.size W W')) (HK : Hid (∀ W, Calls Try.prog 9 #[.int .i64 w] W fun r W' => r = .returned (.bool false) ∧ Below W.heap.size W W')) :
    Calls Try.prog 4 #[.int .i64 w, .int .u64 x, .agg #[.bool n, .int .i64 K, .int .i64 X, .int .u64 S]] W fun r W' => r = .returned (.bool true) ∧ Below W.heap.size W W' := by
  go_enter Try.func4, Try.ntmps4
  go_wp2_with fail
  refine (awake_any _).mono ?_
  rintro _ w1 ⟨rfl, hbl⟩
  have HA := hide (((at4_new W (.bool n) (.int .i64 K) (.int .i64 X) (.int .u64 S) 33).below hbl).below ((Below.refl _ _).drew))
  have HB := hide (bthen (below1 _ _) hbl).drew
  clear hbl
  go_wp2_with fail
  refine wp_region_held_drew (S := fun w' => w'.cell? ⟨W.heap.size, 0, none⟩ = some (.bool n) ∧ w'.cell? ⟨W.heap.size, 1, none⟩ = some (.int .i64 K) ∧ w'.cell? ⟨W.heap.size, 2, none⟩ = some (.int .i64 X) ∧ w'.cell? ⟨W.heap.size, 3, none⟩ = some (.int .u64 S)) (by kernel_rfl) ?_ (fun hHeld => ?_)
  · (try dsimp only)
    exact unhide HA
  refine anyH_at #[false, false, false, false, false, false, false, false, false, false, false, false] (by kernel_rfl) ?_
  refine wpAnyH_take (i := 0) (oi := { dst := some 12, op := _, type := _, pos := _, after := _, guard := _ }) (v := ?vv0r3) rfl (by kernel_rfl) (by kernel_rfl) (by kernel_rfl) (fun _ _ _ h => h) (Or.inl ⟨by rfl, ?hy0r3⟩) (by assumption) ?rest0r3
  case hy0r3 => ((intro w hSw; (try dsimp only at hSw); go_simp) <;> with_reducible rfl)
  case rest0r3 =>
    (try simp only [Act.put, List.setIfInBounds_toArray, List.set_cons_zero, List.set_cons_succ])
    refine anyH_at #[true, false, false, false, false, false, false, false, false, false, false, false] (by kernel_rfl) ?_
    refine wpAnyH_take (i := 1) (oi := { dst := some 13, op := _, type := _, pos := _, after := _, guard := _ }) (v := ?vv1r3) rfl (by kernel_rfl) (by kernel_rfl) (by kernel_rfl) (fun _ _ _ h => h) (Or.inl ⟨by rfl, ?hy1r3⟩) (by assumption) ?rest1r3
    case hy1r3 => ((intro w hSw; (try dsimp only at hSw); go_simp) <;> with_reducible rfl)
    case rest1r3 =>
      (try simp only [Act.put, List.setIfInBounds_toArray, List.set_cons_zero, List.set_cons_succ])
      refine anyH_at #[true, true, false, false, false, false, false, false, false, false, false, false] (by kernel_rfl) ?_
      refine wpAnyH_take (i := 3) (oi := { dst := some 15, op := _, type := _, pos := _, after := _, guard := _ }) (v := ?vv3r3) rfl (by kernel_rfl) (by kernel_rfl) (by kernel_rfl) (fun _ _ _ h => h) (Or.inl ⟨by rfl, ?hy3r3⟩) (by assumption) ?rest3r3
      case hy3r3 => ((intro w hSw; (try dsimp only at hSw); go_simp) <;> with_reducible rfl)
      case rest3r3 =>
        (try simp only [Act.put, List.setIfInBounds_toArray, List.set_cons_zero, List.set_cons_succ])
        refine anyH_at #[true, true, false, true, false, false, false, false, false, false, false, false] (by kernel_rfl) ?_
        refine wpAnyH_take (i := 4) (oi := { dst := some 16, op := _, type := _, pos := _, after := _, guard := _ }) (v := ?vv4r3) rfl (by kernel_rfl) (by kernel_rfl) (by kernel_rfl) (fun _ _ _ h => h) (Or.inl ⟨by rfl, ?hy4r3⟩) (by assumption) ?rest4r3
        case hy4r3 => ((intro w hSw; (try dsimp only at hSw); go_simp) <;> with_reducible rfl)
        case rest4r3 =>
          (try simp only [Act.put, List.setIfInBounds_toArray, List.set_cons_zero, List.set_cons_succ])
          refine anyH_at #[true, true, false, true, true, false, false, false, false, false, false, false] (by kernel_rfl) ?_
          refine wpAnyH_take (i := 6) (oi := { dst := some 18, op := _, type := _, pos := _, after := _, guard := _ }) (v := ?vv6r3) rfl (by kernel_rfl) (by kernel_rfl) (by kernel_rfl) (fun _ _ _ h => h) (Or.inl ⟨by rfl, ?hy6r3⟩) (by assumption) ?rest6r3
          case hy6r3 => ((intro w hSw; (try dsimp only at hSw); go_simp) <;> with_reducible rfl)
          case rest6r3 =>
            (try simp only [Act.put, List.setIfInBounds_toArray, List.set_cons_zero, List.set_cons_succ])
            refine anyH_at #[true, true, false, true, true, false, true, false, false, false, false, false] (by kernel_rfl) ?_
            refine wpAnyH_take (i := 7) (oi := { dst := some 19, op := _, type := _, pos := _, after := _, guard := _ }) (v := ?vv7r3) rfl (by kernel_rfl) (by kernel_rfl) (by kernel_rfl) (fun _ _ _ h => h) (Or.inl ⟨by rfl, ?hy7r3⟩) (by assumption) ?rest7r3
            case hy7r3 => ((intro w hSw; (try dsimp only at hSw); go_simp) <;> with_reducible rfl)
            case rest7r3 =>
              (try simp only [Act.put, List.setIfInBounds_toArray, List.set_cons_zero, List.set_cons_succ])
              refine anyH_at #[true, true, false, true, true, false, true, true, false, false, false, false] (by kernel_rfl) ?_
              refine wpAnyH_ready (rs := [2]) (by kernel_rfl) (by simp) ?_
              refine AllReadyH.cons (o := { dst := some 14, op := _, type := _, pos := _, after := _, guard := _ }) rfl (fun Kk hKk => ?_) AllReadyH.nil
              go_simp
              refine (unhide H1 _).mono ?_
              rintro _ w2 ⟨rfl, hbl⟩
              have HB := hide (bthen (unhide HB) hbl)
              have HA := hide ((unhide HA).below hbl)
              clear hbl
              (try go_wp2_with fail)
              refine hKk.out _ _ ?_ (fun hHeld => ?_)
              · (try dsimp only)
                exact unhide HA
              clear hKk Kk
              (try simp only [List.setIfInBounds_toArray, List.set_cons_zero, List.set_cons_succ])
              refine anyH_at #[true, true, true, true, true, false, true, true, false, false, false, false] (by kernel_rfl) ?_
              refine wpAnyH_ready (rs := [5]) (by kernel_rfl) (by simp) ?_
              refine AllReadyH.cons (o := { dst := some 17, op := _, type := _, pos := _, after := _, guard := _ }) rfl (fun Kk hKk => ?_) AllReadyH.nil
              go_simp
              refine (unhide H2 _).mono ?_
              rintro _ w3 ⟨rfl, hbl⟩
              have HB := hide (bthen (unhide HB) hbl)
              have HA := hide ((unhide HA).below hbl)
              clear hbl
              (try go_wp2_with fail)
              refine hKk.out _ _ ?_ (fun hHeld => ?_)
              · (try dsimp only)
                exact unhide HA
              clear hKk Kk
              (try simp only [List.setIfInBounds_toArray, List.set_cons_zero, List.set_cons_succ])
              refine anyH_at #[true, true, true, true, true, true, true, true, false, false, false, false] (by kernel_rfl) ?_
              refine wpAnyH_ready (rs := [8]) (by kernel_rfl) (by simp) ?_
              refine AllReadyH.cons (o := { dst := some 20, op := _, type := _, pos := _, after := _, guard := _ }) rfl (fun Kk hKk => ?_) AllReadyH.nil
              go_simp
              refine (unhide H3 _).mono ?_
              rintro _ w4 ⟨rfl, hbl⟩
              have HB := hide (bthen (unhide HB) hbl)
              have HA := hide ((unhide HA).below hbl)
              clear hbl
              (try go_wp2_with fail)
              refine hKk.out _ _ ?_ (fun hHeld => ?_)
              · (try dsimp only)
                exact unhide HA
              clear hKk Kk
              (try simp only [List.setIfInBounds_toArray, List.set_cons_zero, List.set_cons_succ])
              refine anyH_at #[true, true, true, true, true, true, true, true, true, false, false, false] (by kernel_rfl) ?_
              refine wpAnyH_take (i := 9) (oi := { dst := some 7, op := _, type := _, pos := _, after := _, guard := _ }) (v := ?vv9r3) rfl (by kernel_rfl) (by kernel_rfl) (by kernel_rfl) (fun _ _ _ h => h) (Or.inl ⟨by rfl, ?hy9r3⟩) (by assumption) ?rest9r3
              case hy9r3 => ((intro w hSw; (try dsimp only at hSw); go_simp) <;> with_reducible rfl)
              case rest9r3 =>
                (try simp only [Act.put, List.setIfInBounds_toArray, List.set_cons_zero, List.set_cons_succ])
                refine anyH_at #[true, true, true, true, true, true, true, true, true, true, false, false] (by kernel_rfl) ?_
                refine wpAnyH_take (i := 10) (oi := { dst := some 8, op := _, type := _, pos := _, after := _, guard := _ }) (v := ?vv10r3) rfl (by kernel_rfl) (by kernel_rfl) (by kernel_rfl) (fun _ _ _ h => h) (Or.inl ⟨by rfl, ?hy10r3⟩) (by assumption) ?rest10r3
                case hy10r3 => ((intro w hSw; (try dsimp only at hSw); go_simp) <;> with_reducible rfl)
                case rest10r3 =>
                  (try simp only [Act.put, List.setIfInBounds_toArray, List.set_cons_zero, List.set_cons_succ])
                  refine anyH_at #[true, true, true, true, true, true, true, true, true, true, true, false] (by kernel_rfl) ?_
                  refine wpAnyH_take (i := 11) (oi := { dst := some 9, op := _, type := _, pos := _, after := _, guard := _ }) (v := ?vv11r3) rfl (by kernel_rfl) (by kernel_rfl) (by kernel_rfl) (fun _ _ _ h => h) (Or.inl ⟨by rfl, ?hy11r3⟩) (by assumption) ?rest11r3
                  case hy11r3 => ((intro w hSw; (try dsimp only at hSw); go_simp) <;> with_reducible rfl)
                  case rest11r3 =>
                    (try simp only [Act.put, List.setIfInBounds_toArray, List.set_cons_zero, List.set_cons_succ])
                    refine anyH_at #[true, true, true, true, true, true, true, true, true, true, true, true] (by kernel_rfl) ?_
                    refine wpAnyH_done (by kernel_rfl) ?_ _
                    clear hHeld
                    go_wp2_with fail
                    refine (unhide HK _).mono ?_
                    rintro _ w5 ⟨rfl, hbl⟩
                    have HB := hide (bthen (unhide HB) hbl)
                    have HA := hide ((unhide HA).below hbl)
                    clear hbl
                    go_wp2_with fail
                    go_ret
                    exact ⟨by simp, unhide HB⟩

set_option maxRecDepth 100000 in
set_option maxHeartbeats 4000000 in
theorem wholes_k {w x K X S A B D : Int} {n g : Bool} (W : World) (H1 : Hid (∀ W, Calls Try.prog 11 #[.int .i64 w, .bool true, .int .u64 x] W fun r W' => r = .returned (.int .u64 A) ∧ Below W.heap.size W W')) (H2 : Hid (∀ W, Calls Try.prog 11 #[.int .i64 w, .bool false, .int .u64 x] W fun r W' => r = .returned (.int .u64 B) ∧ Below W.heap.size W W'))
    (H3 : Hid (∀ W, Calls Try.prog 12 #[.int .i64 w, .agg #[.bool n, .int .i64 K, .int .i64 X, .int .u64 S]] W fun r W' => r = .returned (.int .u64 D) ∧ Below W.heap.size W W')) (HK : Hid (∀ W, Calls Try.prog 9 #[.int .i64 w] W fun r W' => r = .returned (.bool true) ∧ Below W.heap.size W W')) (x0 : 0 ≤ x) (x1 : x < 18446744073709551616) (kg : decide (0 < x) = g)
    (HE1 : Hid (∀ (a : Option Addr) (na ca : Nat) (W : World), IsNat W (.slice a na ca) x.toNat → Calls Try.prog 13 #[.int .i64 w, .bool g, .agg #[.slice a na ca], .int .i64 0] W fun r W' => r = .returned (.int .u64 A) ∧ Below W.heap.size W W'))
    (HE2 : Hid (∀ (a : Option Addr) (na ca : Nat) (W : World), IsNat W (.slice a na ca) x.toNat → Calls Try.prog 13 #[.int .i64 w, .bool false, .agg #[.slice a na ca], .int .i64 0] W fun r W' => r = .returned (.int .u64 B) ∧ Below W.heap.size W W'))
    (HR : Hid (∀ W, Calls Try.prog 15 #[.int .i64 w, .agg #[.bool n, .int .i64 K, .int .i64 X, .int .u64 S]] W fun r W' => r = .returned (.int .u64 D) ∧ Below W.heap.size W W')) :
    Calls Try.prog 4 #[.int .i64 w, .int .u64 x, .agg #[.bool n, .int .i64 K, .int .i64 X, .int .u64 S]] W fun r W' => r = .returned (.bool true) ∧ Below W.heap.size W W' := by
  go_enter Try.func4, Try.ntmps4
  go_wp2_with fail
  refine (awake_any _).mono ?_
  rintro _ w1 ⟨rfl, hbl⟩
  have HA := hide (((at4_new W (.bool n) (.int .i64 K) (.int .i64 X) (.int .u64 S) 33).below hbl).below ((Below.refl _ _).drew))
  have HB := hide (bthen (below1 _ _) hbl).drew
  clear hbl
  go_wp2_with fail
  refine wp_region_held_drew (S := fun w' => w'.cell? ⟨W.heap.size, 0, none⟩ = some (.bool n) ∧ w'.cell? ⟨W.heap.size, 1, none⟩ = some (.int .i64 K) ∧ w'.cell? ⟨W.heap.size, 2, none⟩ = some (.int .i64 X) ∧ w'.cell? ⟨W.heap.size, 3, none⟩ = some (.int .u64 S)) (by kernel_rfl) ?_ (fun hHeld => ?_)
  · (try dsimp only)
    exact unhide HA
  refine anyH_at #[false, false, false, false, false, false, false, false, false, false, false, false] (by kernel_rfl) ?_
  refine wpAnyH_take (i := 0) (oi := { dst := some 12, op := _, type := _, pos := _, after := _, guard := _ }) (v := ?vv0r3) rfl (by kernel_rfl) (by kernel_rfl) (by kernel_rfl) (fun _ _ _ h => h) (Or.inl ⟨by rfl, ?hy0r3⟩) (by assumption) ?rest0r3
  case hy0r3 => ((intro w hSw; (try dsimp only at hSw); go_simp) <;> with_reducible rfl)
  case rest0r3 =>
    (try simp only [Act.put, List.setIfInBounds_toArray, List.set_cons_zero, List.set_cons_succ])
    refine anyH_at #[true, false, false, false, false, false, false, false, false, false, false, false] (by kernel_rfl) ?_
    refine wpAnyH_take (i := 1) (oi := { dst := some 13, op := _, type := _, pos := _, after := _, guard := _ }) (v := ?vv1r3) rfl (by kernel_rfl) (by kernel_rfl) (by kernel_rfl) (fun _ _ _ h => h) (Or.inl ⟨by rfl, ?hy1r3⟩) (by assumption) ?rest1r3
    case hy1r3 => ((intro w hSw; (try dsimp only at hSw); go_simp) <;> with_reducible rfl)
    case rest1r3 =>
      (try simp only [Act.put, List.setIfInBounds_toArray, List.set_cons_zero, List.set_cons_succ])
      refine anyH_at #[true, true, false, false, false, false, false, false, false, false, false, false] (by kernel_rfl) ?_
      refine wpAnyH_take (i := 3) (oi := { dst := some 15, op := _, type := _, pos := _, after := _, guard := _ }) (v := ?vv3r3) rfl (by kernel_rfl) (by kernel_rfl) (by kernel_rfl) (fun _ _ _ h => h) (Or.inl ⟨by rfl, ?hy3r3⟩) (by assumption) ?rest3r3
      case hy3r3 => ((intro w hSw; (try dsimp only at hSw); go_simp) <;> with_reducible rfl)
      case rest3r3 =>
        (try simp only [Act.put, List.setIfInBounds_toArray, List.set_cons_zero, List.set_cons_succ])
        refine anyH_at #[true, true, false, true, false, false, false, false, false, false, false, false] (by kernel_rfl) ?_
        refine wpAnyH_take (i := 4) (oi := { dst := some 16, op := _, type := _, pos := _, after := _, guard := _ }) (v := ?vv4r3) rfl (by kernel_rfl) (by kernel_rfl) (by kernel_rfl) (fun _ _ _ h => h) (Or.inl ⟨by rfl, ?hy4r3⟩) (by assumption) ?rest4r3
        case hy4r3 => ((intro w hSw; (try dsimp only at hSw); go_simp) <;> with_reducible rfl)
        case rest4r3 =>
          (try simp only [Act.put, List.setIfInBounds_toArray, List.set_cons_zero, List.set_cons_succ])
          refine anyH_at #[true, true, false, true, true, false, false, false, false, false, false, false] (by kernel_rfl) ?_
          refine wpAnyH_take (i := 6) (oi := { dst := some 18, op := _, type := _, pos := _, after := _, guard := _ }) (v := ?vv6r3) rfl (by kernel_rfl) (by kernel_rfl) (by kernel_rfl) (fun _ _ _ h => h) (Or.inl ⟨by rfl, ?hy6r3⟩) (by assumption) ?rest6r3
          case hy6r3 => ((intro w hSw; (try dsimp only at hSw); go_simp) <;> with_reducible rfl)
          case rest6r3 =>
            (try simp only [Act.put, List.setIfInBounds_toArray, List.set_cons_zero, List.set_cons_succ])
            refine anyH_at #[true, true, false, true, true, false, true, false, false, false, false, false] (by kernel_rfl) ?_
            refine wpAnyH_take (i := 7) (oi := { dst := some 19, op := _, type := _, pos := _, after := _, guard := _ }) (v := ?vv7r3) rfl (by kernel_rfl) (by kernel_rfl) (by kernel_rfl) (fun _ _ _ h => h) (Or.inl ⟨by rfl, ?hy7r3⟩) (by assumption) ?rest7r3
            case hy7r3 => ((intro w hSw; (try dsimp only at hSw); go_simp) <;> with_reducible rfl)
            case rest7r3 =>
              (try simp only [Act.put, List.setIfInBounds_toArray, List.set_cons_zero, List.set_cons_succ])
              refine anyH_at #[true, true, false, true, true, false, true, true, false, false, false, false] (by kernel_rfl) ?_
              refine wpAnyH_ready (rs := [2]) (by kernel_rfl) (by simp) ?_
              refine AllReadyH.cons (o := { dst := some 14, op := _, type := _, pos := _, after := _, guard := _ }) rfl (fun Kk hKk => ?_) AllReadyH.nil
              go_simp
              refine (unhide H1 _).mono ?_
              rintro _ w2 ⟨rfl, hbl⟩
              have HB := hide (bthen (unhide HB) hbl)
              have HA := hide ((unhide HA).below hbl)
              clear hbl
              (try go_wp2_with fail)
              refine hKk.out _ _ ?_ (fun hHeld => ?_)
              · (try dsimp only)
                exact unhide HA
              clear hKk Kk
              (try simp only [List.setIfInBounds_toArray, List.set_cons_zero, List.set_cons_succ])
              refine anyH_at #[true, true, true, true, true, false, true, true, false, false, false, false] (by kernel_rfl) ?_
              refine wpAnyH_ready (rs := [5]) (by kernel_rfl) (by simp) ?_
              refine AllReadyH.cons (o := { dst := some 17, op := _, type := _, pos := _, after := _, guard := _ }) rfl (fun Kk hKk => ?_) AllReadyH.nil
              go_simp
              refine (unhide H2 _).mono ?_
              rintro _ w3 ⟨rfl, hbl⟩
              have HB := hide (bthen (unhide HB) hbl)
              have HA := hide ((unhide HA).below hbl)
              clear hbl
              (try go_wp2_with fail)
              refine hKk.out _ _ ?_ (fun hHeld => ?_)
              · (try dsimp only)
                exact unhide HA
              clear hKk Kk
              (try simp only [List.setIfInBounds_toArray, List.set_cons_zero, List.set_cons_succ])
              refine anyH_at #[true, true, true, true, true, true, true, true, false, false, false, false] (by kernel_rfl) ?_
              refine wpAnyH_ready (rs := [8]) (by kernel_rfl) (by simp) ?_
              refine AllReadyH.cons (o := { dst := some 20, op := _, type := _, pos := _, after := _, guard := _ }) rfl (fun Kk hKk => ?_) AllReadyH.nil
              go_simp
              refine (unhide H3 _).mono ?_
              rintro _ w4 ⟨rfl, hbl⟩
              have HB := hide (bthen (unhide HB) hbl)
              have HA := hide ((unhide HA).below hbl)
              clear hbl
              (try go_wp2_with fail)
              refine hKk.out _ _ ?_ (fun hHeld => ?_)
              · (try dsimp only)
                exact unhide HA
              clear hKk Kk
              (try simp only [List.setIfInBounds_toArray, List.set_cons_zero, List.set_cons_succ])
              refine anyH_at #[true, true, true, true, true, true, true, true, true, false, false, false] (by kernel_rfl) ?_
              refine wpAnyH_take (i := 9) (oi := { dst := some 7, op := _, type := _, pos := _, after := _, guard := _ }) (v := ?vv9r3) rfl (by kernel_rfl) (by kernel_rfl) (by kernel_rfl) (fun _ _ _ h => h) (Or.inl ⟨by rfl, ?hy9r3⟩) (by assumption) ?rest9r3
              case hy9r3 => ((intro w hSw; (try dsimp only at hSw); go_simp) <;> with_reducible rfl)
              case rest9r3 =>
                (try simp only [Act.put, List.setIfInBounds_toArray, List.set_cons_zero, List.set_cons_succ])
                refine anyH_at #[true, true, true, true, true, true, true, true, true, true, false, false] (by kernel_rfl) ?_
                refine wpAnyH_take (i := 10) (oi := { dst := some 8, op := _, type := _, pos := _, after := _, guard := _ }) (v := ?vv10r3) rfl (by kernel_rfl) (by kernel_rfl) (by kernel_rfl) (fun _ _ _ h => h) (Or.inl ⟨by rfl, ?hy10r3⟩) (by assumption) ?rest10r3
                case hy10r3 => ((intro w hSw; (try dsimp only at hSw); go_simp) <;> with_reducible rfl)
                case rest10r3 =>
                  (try simp only [Act.put, List.setIfInBounds_toArray, List.set_cons_zero, List.set_cons_succ])
                  refine anyH_at #[true, true, true, true, true, true, true, true, true, true, true, false] (by kernel_rfl) ?_
                  refine wpAnyH_take (i := 11) (oi := { dst := some 9, op := _, type := _, pos := _, after := _, guard := _ }) (v := ?vv11r3) rfl (by kernel_rfl) (by kernel_rfl) (by kernel_rfl) (fun _ _ _ h => h) (Or.inl ⟨by rfl, ?hy11r3⟩) (by assumption) ?rest11r3
                  case hy11r3 => ((intro w hSw; (try dsimp only at hSw); go_simp) <;> with_reducible rfl)
                  case rest11r3 =>
                    (try simp only [Act.put, List.setIfInBounds_toArray, List.set_cons_zero, List.set_cons_succ])
                    refine anyH_at #[true, true, true, true, true, true, true, true, true, true, true, true] (by kernel_rfl) ?_
                    refine wpAnyH_done (by kernel_rfl) ?_ _
                    clear hHeld
                    go_wp2_with fail
                    refine (unhide HK _).mono ?_
                    rintro _ w5 ⟨rfl, hbl⟩
                    have HB := hide (bthen (unhide HB) hbl)
                    have HA := hide ((unhide HA).below hbl)
                    clear hbl
                    go_wp2_with fail
                    refine (refOf_any x _ x0 x1).mono ?_
                    rintro _ w6 ⟨s6, rfl, hN6, hbl⟩
                    obtain ⟨b6, n6, c6, rfl⟩ := hN6.slice
                    have H6 := hide hN6
                    clear hN6
                    have HB := hide (bthen (unhide HB) hbl)
                    have HA := hide ((unhide HA).below hbl)
                    clear hbl
                    go_wp2_with fail
                    refine (unhide HE1 _ _ _ _ (unhide H6)).mono ?_
                    rintro _ w6' ⟨rfl, hbl⟩
                    have HB := hide (bthen (unhide HB) hbl)
                    have HA := hide ((unhide HA).below hbl)
                    clear hbl
                    go_wp2_with fail
                    refine (refOf_any x _ x0 x1).mono ?_
                    rintro _ w7 ⟨s7, rfl, hN7, hbl⟩
                    obtain ⟨b7, n7, c7, rfl⟩ := hN7.slice
                    have H7 := hide hN7
                    clear hN7
                    have HB := hide (bthen (unhide HB) hbl)
                    have HA := hide ((unhide HA).below hbl)
                    clear hbl
                    go_wp2_with fail
                    refine (unhide HE2 _ _ _ _ (unhide H7)).mono ?_
                    rintro _ w7' ⟨rfl, hbl⟩
                    have HB := hide (bthen (unhide HB) hbl)
                    have HA := hide ((unhide HA).below hbl)
                    clear hbl
                    obtain ⟨a0, a1, a2, a3⟩ := unhide HA
                    go_wp2_with fail
                    clear a0 a1 a2 a3
                    refine (unhide HR _).mono ?_
                    rintro _ w8 ⟨rfl, hbl⟩
                    have HB := hide (bthen (unhide HB) hbl)
                    have HA := hide ((unhide HA).below hbl)
                    clear hbl
                    go_wp2_with fail
                    go_ret
                    exact ⟨by simp, unhide HB⟩

end Go.Proofs.Ytiklaalcmfkddaa
