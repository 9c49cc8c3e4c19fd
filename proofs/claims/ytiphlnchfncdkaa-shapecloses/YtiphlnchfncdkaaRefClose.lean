/- The contract of the reference's Close. -/
import Derived.Test.YtiphlnchfncdkaaCloseW
import Derived.Test.YtiphlnchfncdkaaRefOpen
namespace Go.Proofs.Ytiphlnchfncdkaa
open Go.RowKit

set_option maxRecDepth 100000 in
set_option maxHeartbeats 4000000 in
theorem rc_oth {w K X S K' X' S' : Int} {n n' ok : Bool} (W : World) (hE : ∀ w : World, (if n' = n then (if K' = K then (if X' = X then (if S' = S then Result.ok (Next.value (Value.bool true)) w else Result.ok (Next.value (Value.bool false)) w) else Result.ok (Next.value (Value.bool false)) w) else Result.ok (Next.value (Value.bool false)) w) else Result.ok (Next.value (Value.bool false)) w) = Result.ok (Next.value (Value.bool ok)) w) (k0 : (K == 0) = false) (k1 : (K == 1) = false) (k2 : (K == 2) = false) (k3 : (K == 3) = false) (HO : Hid (∀ W, Calls Try.prog 13 #[.int .i64 w, .int .u64 0] W fun r W' => r = .returned (.agg #[.bool n', .int .i64 K', .int .i64 X', .int .u64 S']) ∧ Below W.heap.size W W')) :
    Calls Try.prog 28 #[.int .i64 w, .agg #[.bool n, .int .i64 K, .int .i64 X, .int .u64 S]] W fun r W' => r = .returned (.tuple #[.int .u64 0, .bool ok]) ∧ Below W.heap.size W W' := by
  go_enter Try.func28, Try.ntmps28
  go_wp2_with fail
  have HB := hide (below1 W (.cells #[.bool n, .int .i64 K, .int .i64 X, .int .u64 S] 30))
  have HA := hide (at4_new W (.bool n) (.int .i64 K) (.int .i64 X) (.int .u64 S) 30)
  have HB := hide (unhide HB).drew
  have HA := hide ((unhide HA).below ((Below.refl _ _).drew))
  refine wp_region_held_drew (S := fun w' => w'.cell? ⟨W.heap.size, 0, none⟩ = some (.bool n) ∧ w'.cell? ⟨W.heap.size, 1, none⟩ = some (.int .i64 K) ∧ w'.cell? ⟨W.heap.size, 2, none⟩ = some (.int .i64 X) ∧ w'.cell? ⟨W.heap.size, 3, none⟩ = some (.int .u64 S)) (by kernel_rfl) ?_ (fun hHeld => ?_)
  · (try dsimp only)
    exact unhide HA
  refine anyH_at #[false, false, false, false, false, false, false, false] (by kernel_rfl) ?_
  refine wpAnyH_take (i := 0) (oi := { dst := some 64, op := _, type := _, pos := _, after := _, guard := _ }) (v := ?vv0r17) rfl (by kernel_rfl) (by kernel_rfl) (by kernel_rfl) (fun _ _ _ h => h) (Or.inl ⟨by rfl, ?hy0r17⟩) (by assumption) ?rest0r17
  case hy0r17 => ((intro w hSw; (try dsimp only at hSw); go_simp) <;> with_reducible rfl)
  case rest0r17 =>
    (try simp only [Act.put, List.setIfInBounds_toArray, List.set_cons_zero, List.set_cons_succ])
    refine anyH_at #[true, false, false, false, false, false, false, false] (by kernel_rfl) ?_
    refine wpAnyH_take (i := 1) (oi := { dst := some 65, op := _, type := _, pos := _, after := _, guard := _ }) (v := ?vv1r17) rfl (by kernel_rfl) (by kernel_rfl) (by kernel_rfl) (fun _ _ _ h => h) (Or.inl ⟨by rfl, ?hy1r17⟩) (by assumption) ?rest1r17
    case hy1r17 => ((intro w hSw; (try dsimp only at hSw); go_simp) <;> with_reducible rfl)
    case rest1r17 =>
      (try simp only [Act.put, List.setIfInBounds_toArray, List.set_cons_zero, List.set_cons_succ])
      refine anyH_at #[true, true, false, false, false, false, false, false] (by kernel_rfl) ?_
      refine wpAnyH_take (i := 2) (oi := { dst := some 66, op := _, type := _, pos := _, after := _, guard := _ }) (v := ?vv2r17) rfl (by kernel_rfl) (by kernel_rfl) (by kernel_rfl) (fun _ _ _ h => h) (Or.inl ⟨by rfl, ?hy2r17⟩) (by assumption) ?rest2r17
      case hy2r17 => ((intro w hSw; (try dsimp only at hSw); go_simp) <;> with_reducible rfl)
      case rest2r17 =>
        (try simp only [Act.put, List.setIfInBounds_toArray, List.set_cons_zero, List.set_cons_succ])
        refine anyH_at #[true, true, true, false, false, false, false, false] (by kernel_rfl) ?_
        refine wpAnyH_take (i := 4) (oi := { dst := some 68, op := _, type := _, pos := _, after := _, guard := _ }) (v := ?vv4r17) rfl (by kernel_rfl) (by kernel_rfl) (by kernel_rfl) (fun _ _ _ h => h) (Or.inl ⟨by rfl, ?hy4r17⟩) (by assumption) ?rest4r17
        case hy4r17 => ((intro w hSw; (try dsimp only at hSw); go_simp) <;> with_reducible rfl)
        case rest4r17 =>
          (try simp only [Act.put, List.setIfInBounds_toArray, List.set_cons_zero, List.set_cons_succ])
          refine anyH_at #[true, true, true, false, true, false, false, false] (by kernel_rfl) ?_
          refine wpAnyH_ready (rs := [3]) (by kernel_rfl) (by simp) ?_
          refine AllReadyH.cons (o := { dst := some 67, op := _, type := _, pos := _, after := _, guard := _ }) rfl (fun Kk hKk => ?_) AllReadyH.nil
          go_simp
          refine (unhide HO _).mono ?_
          rintro _ wn ⟨rfl, hbl⟩
          have HB := hide (bthen (unhide HB) hbl)
          have HA := hide ((unhide HA).below hbl)
          clear hbl
          (try go_wp2_with fail)
          refine hKk.out _ _ ?_ (fun hHeld => ?_)
          · (try dsimp only)
            exact unhide HA
          clear hKk Kk
          (try simp only [List.setIfInBounds_toArray, List.set_cons_zero, List.set_cons_succ])
          refine anyH_at #[true, true, true, true, true, false, false, false] (by kernel_rfl) ?_
          refine wpAnyH_take (i := 5) (oi := { dst := some 69, op := _, type := _, pos := _, after := _, guard := _ }) (v := ?vv5r17) rfl (by kernel_rfl) (by kernel_rfl) (by kernel_rfl) (fun _ _ _ h => h) (Or.inl ⟨by rfl, ?hy5r17⟩) (by assumption) ?rest5r17
          case hy5r17 => ((intro w hSw; (try dsimp only at hSw); go_simp) <;> with_reducible rfl)
          case rest5r17 =>
            (try simp only [Act.put, List.setIfInBounds_toArray, List.set_cons_zero, List.set_cons_succ])
            refine anyH_at #[true, true, true, true, true, true, false, false] (by kernel_rfl) ?_
            refine wpAnyH_take (i := 6) (oi := { dst := some 4, op := _, type := _, pos := _, after := _, guard := _ }) (v := ?vv6r17) rfl (by kernel_rfl) (by kernel_rfl) (by kernel_rfl) (fun _ _ _ h => h) (Or.inl ⟨by rfl, ?hy6r17⟩) (by assumption) ?rest6r17
            case hy6r17 => ((intro w hSw; (try dsimp only at hSw); go_simp) <;> with_reducible rfl)
            case rest6r17 =>
              (try simp only [Act.put, List.setIfInBounds_toArray, List.set_cons_zero, List.set_cons_succ])
              refine anyH_at #[true, true, true, true, true, true, true, false] (by kernel_rfl) ?_
              refine wpAnyH_take (i := 7) (oi := { dst := some 5, op := _, type := _, pos := _, after := _, guard := _ }) (v := ?vv7r17) rfl (by kernel_rfl) (by kernel_rfl) (by kernel_rfl) (fun _ _ _ h => h) (Or.inl ⟨by rfl, ?hy7r17⟩) (by assumption) ?rest7r17
              case hy7r17 => ((intro w hSw; (try dsimp only at hSw); go_simp) <;> with_reducible rfl)
              case rest7r17 =>
                (try simp only [Act.put, List.setIfInBounds_toArray, List.set_cons_zero, List.set_cons_succ])
                refine anyH_at #[true, true, true, true, true, true, true, true] (by kernel_rfl) ?_
                refine wpAnyH_done (by kernel_rfl) ?_ _
                clear hHeld
                go_wp2_with fail
                go_ret2
                exact ⟨rfl, unhide HB⟩

set_option maxRecDepth 100000 in
set_option maxHeartbeats 4000000 in
theorem rc_k0 {w K X S K' X' S' V : Int} {n n' ok : Bool} (W : World) (hE : ∀ w : World, (if n' = n then (if K' = K then (if X' = X then (if S' = S then Result.ok (Next.value (Value.bool true)) w else Result.ok (Next.value (Value.bool false)) w) else Result.ok (Next.value (Value.bool false)) w) else Result.ok (Next.value (Value.bool false)) w) else Result.ok (Next.value (Value.bool false)) w) = Result.ok (Next.value (Value.bool ok)) w) (k0 : (K == 0) = true) (HM : Hid (∀ W, Calls Try.prog 25 #[.int .i64 w, .bool n, .int .i64 0, .int .u64 0] W fun r W' => r = .returned (.int .u64 V) ∧ Below W.heap.size W W')) (HO : Hid (∀ W, Calls Try.prog 13 #[.int .i64 w, .int .u64 V] W fun r W' => r = .returned (.agg #[.bool n', .int .i64 K', .int .i64 X', .int .u64 S']) ∧ Below W.heap.size W W')) :
    Calls Try.prog 28 #[.int .i64 w, .agg #[.bool n, .int .i64 K, .int .i64 X, .int .u64 S]] W fun r W' => r = .returned (.tuple #[.int .u64 V, .bool ok]) ∧ Below W.heap.size W W' := by
  go_enter Try.func28, Try.ntmps28
  go_wp2_with fail
  have HB := hide (below1 W (.cells #[.bool n, .int .i64 K, .int .i64 X, .int .u64 S] 30))
  have HA := hide (at4_new W (.bool n) (.int .i64 K) (.int .i64 X) (.int .u64 S) 30)
  refine (unhide HM _).mono ?_
  rintro _ wm ⟨rfl, hbl⟩
  have HB := hide (bthen (unhide HB) hbl)
  have HA := hide ((unhide HA).below hbl)
  clear hbl
  go_wp2_with fail
  have HB := hide (unhide HB).drew
  have HA := hide ((unhide HA).below ((Below.refl _ _).drew))
  refine wp_region_held_drew (S := fun w' => w'.cell? ⟨W.heap.size, 0, none⟩ = some (.bool n) ∧ w'.cell? ⟨W.heap.size, 1, none⟩ = some (.int .i64 K) ∧ w'.cell? ⟨W.heap.size, 2, none⟩ = some (.int .i64 X) ∧ w'.cell? ⟨W.heap.size, 3, none⟩ = some (.int .u64 S)) (by kernel_rfl) ?_ (fun hHeld => ?_)
  · (try dsimp only)
    exact unhide HA
  refine anyH_at #[false, false, false, false, false, false, false, false] (by kernel_rfl) ?_
  refine wpAnyH_take (i := 0) (oi := { dst := some 64, op := _, type := _, pos := _, after := _, guard := _ }) (v := ?vv0r17) rfl (by kernel_rfl) (by kernel_rfl) (by kernel_rfl) (fun _ _ _ h => h) (Or.inl ⟨by rfl, ?hy0r17⟩) (by assumption) ?rest0r17
  case hy0r17 => ((intro w hSw; (try dsimp only at hSw); go_simp) <;> with_reducible rfl)
  case rest0r17 =>
    (try simp only [Act.put, List.setIfInBounds_toArray, List.set_cons_zero, List.set_cons_succ])
    refine anyH_at #[true, false, false, false, false, false, false, false] (by kernel_rfl) ?_
    refine wpAnyH_take (i := 1) (oi := { dst := some 65, op := _, type := _, pos := _, after := _, guard := _ }) (v := ?vv1r17) rfl (by kernel_rfl) (by kernel_rfl) (by kernel_rfl) (fun _ _ _ h => h) (Or.inl ⟨by rfl, ?hy1r17⟩) (by assumption) ?rest1r17
    case hy1r17 => ((intro w hSw; (try dsimp only at hSw); go_simp) <;> with_reducible rfl)
    case rest1r17 =>
      (try simp only [Act.put, List.setIfInBounds_toArray, List.set_cons_zero, List.set_cons_succ])
      refine anyH_at #[true, true, false, false, false, false, false, false] (by kernel_rfl) ?_
      refine wpAnyH_take (i := 2) (oi := { dst := some 66, op := _, type := _, pos := _, after := _, guard := _ }) (v := ?vv2r17) rfl (by kernel_rfl) (by kernel_rfl) (by kernel_rfl) (fun _ _ _ h => h) (Or.inl ⟨by rfl, ?hy2r17⟩) (by assumption) ?rest2r17
      case hy2r17 => ((intro w hSw; (try dsimp only at hSw); go_simp) <;> with_reducible rfl)
      case rest2r17 =>
        (try simp only [Act.put, List.setIfInBounds_toArray, List.set_cons_zero, List.set_cons_succ])
        refine anyH_at #[true, true, true, false, false, false, false, false] (by kernel_rfl) ?_
        refine wpAnyH_take (i := 4) (oi := { dst := some 68, op := _, type := _, pos := _, after := _, guard := _ }) (v := ?vv4r17) rfl (by kernel_rfl) (by kernel_rfl) (by kernel_rfl) (fun _ _ _ h => h) (Or.inl ⟨by rfl, ?hy4r17⟩) (by assumption) ?rest4r17
        case hy4r17 => ((intro w hSw; (try dsimp only at hSw); go_simp) <;> with_reducible rfl)
        case rest4r17 =>
          (try simp only [Act.put, List.setIfInBounds_toArray, List.set_cons_zero, List.set_cons_succ])
          refine anyH_at #[true, true, true, false, true, false, false, false] (by kernel_rfl) ?_
          refine wpAnyH_ready (rs := [3]) (by kernel_rfl) (by simp) ?_
          refine AllReadyH.cons (o := { dst := some 67, op := _, type := _, pos := _, after := _, guard := _ }) rfl (fun Kk hKk => ?_) AllReadyH.nil
          go_simp
          refine (unhide HO _).mono ?_
          rintro _ wn ⟨rfl, hbl⟩
          have HB := hide (bthen (unhide HB) hbl)
          have HA := hide ((unhide HA).below hbl)
          clear hbl
          (try go_wp2_with fail)
          refine hKk.out _ _ ?_ (fun hHeld => ?_)
          · (try dsimp only)
            exact unhide HA
          clear hKk Kk
          (try simp only [List.setIfInBounds_toArray, List.set_cons_zero, List.set_cons_succ])
          refine anyH_at #[true, true, true, true, true, false, false, false] (by kernel_rfl) ?_
          refine wpAnyH_take (i := 5) (oi := { dst := some 69, op := _, type := _, pos := _, after := _, guard := _ }) (v := ?vv5r17) rfl (by kernel_rfl) (by kernel_rfl) (by kernel_rfl) (fun _ _ _ h => h) (Or.inl ⟨by rfl, ?hy5r17⟩) (by assumption) ?rest5r17
          case hy5r17 => ((intro w hSw; (try dsimp only at hSw); go_simp) <;> with_reducible rfl)
          case rest5r17 =>
            (try simp only [Act.put, List.setIfInBounds_toArray, List.set_cons_zero, List.set_cons_succ])
            refine anyH_at #[true, true, true, true, true, true, false, false] (by kernel_rfl) ?_
            refine wpAnyH_take (i := 6) (oi := { dst := some 4, op := _, type := _, pos := _, after := _, guard := _ }) (v := ?vv6r17) rfl (by kernel_rfl) (by kernel_rfl) (by kernel_rfl) (fun _ _ _ h => h) (Or.inl ⟨by rfl, ?hy6r17⟩) (by assumption) ?rest6r17
            case hy6r17 => ((intro w hSw; (try dsimp only at hSw); go_simp) <;> with_reducible rfl)
            case rest6r17 =>
              (try simp only [Act.put, List.setIfInBounds_toArray, List.set_cons_zero, List.set_cons_succ])
              refine anyH_at #[true, true, true, true, true, true, true, false] (by kernel_rfl) ?_
              refine wpAnyH_take (i := 7) (oi := { dst := some 5, op := _, type := _, pos := _, after := _, guard := _ }) (v := ?vv7r17) rfl (by kernel_rfl) (by kernel_rfl) (by kernel_rfl) (fun _ _ _ h => h) (Or.inl ⟨by rfl, ?hy7r17⟩) (by assumption) ?rest7r17
              case hy7r17 => ((intro w hSw; (try dsimp only at hSw); go_simp) <;> with_reducible rfl)
              case rest7r17 =>
                (try simp only [Act.put, List.setIfInBounds_toArray, List.set_cons_zero, List.set_cons_succ])
                refine anyH_at #[true, true, true, true, true, true, true, true] (by kernel_rfl) ?_
                refine wpAnyH_done (by kernel_rfl) ?_ _
                clear hHeld
                go_wp2_with fail
                go_ret2
                exact ⟨rfl, unhide HB⟩

set_option maxRecDepth 100000 in
set_option maxHeartbeats 4000000 in
theorem rc_k2 {w K X S K' X' S' V : Int} {n n' ok : Bool} (W : World) (hE : ∀ w : World, (if n' = n then (if K' = K then (if X' = X then (if S' = S then Result.ok (Next.value (Value.bool true)) w else Result.ok (Next.value (Value.bool false)) w) else Result.ok (Next.value (Value.bool false)) w) else Result.ok (Next.value (Value.bool false)) w) else Result.ok (Next.value (Value.bool false)) w) = Result.ok (Next.value (Value.bool ok)) w) (k0 : (K == 0) = false) (k1 : (K == 1) = false) (k2 : (K == 2) = true) (HM : Hid (∀ W, Calls Try.prog 24 #[.int .i64 w, .bool n] W fun r W' => r = .returned (.int .u64 V) ∧ Below W.heap.size W W')) (HO : Hid (∀ W, Calls Try.prog 13 #[.int .i64 w, .int .u64 V] W fun r W' => r = .returned (.agg #[.bool n', .int .i64 K', .int .i64 X', .int .u64 S']) ∧ Below W.heap.size W W')) :
    Calls Try.prog 28 #[.int .i64 w, .agg #[.bool n, .int .i64 K, .int .i64 X, .int .u64 S]] W fun r W' => r = .returned (.tuple #[.int .u64 V, .bool ok]) ∧ Below W.heap.size W W' := by
  go_enter Try.func28, Try.ntmps28
  go_wp2_with fail
  have HB := hide (below1 W (.cells #[.bool n, .int .i64 K, .int .i64 X, .int .u64 S] 30))
  have HA := hide (at4_new W (.bool n) (.int .i64 K) (.int .i64 X) (.int .u64 S) 30)
  refine (unhide HM _).mono ?_
  rintro _ wm ⟨rfl, hbl⟩
  have HB := hide (bthen (unhide HB) hbl)
  have HA := hide ((unhide HA).below hbl)
  clear hbl
  go_wp2_with fail
  have HB := hide (unhide HB).drew
  have HA := hide ((unhide HA).below ((Below.refl _ _).drew))
  refine wp_region_held_drew (S := fun w' => w'.cell? ⟨W.heap.size, 0, none⟩ = some (.bool n) ∧ w'.cell? ⟨W.heap.size, 1, none⟩ = some (.int .i64 K) ∧ w'.cell? ⟨W.heap.size, 2, none⟩ = some (.int .i64 X) ∧ w'.cell? ⟨W.heap.size, 3, none⟩ = some (.int .u64 S)) (by kernel_rfl) ?_ (fun hHeld => ?_)
  · (try dsimp only)
    exact unhide HA
  refine anyH_at #[false, false, false, false, false, false, false, false] (by kernel_rfl) ?_
  refine wpAnyH_take (i := 0) (oi := { dst := some 64, op := _, type := _, pos := _, after := _, guard := _ }) (v := ?vv0r17) rfl (by kernel_rfl) (by kernel_rfl) (by kernel_rfl) (fun _ _ _ h => h) (Or.inl ⟨by rfl, ?hy0r17⟩) (by assumption) ?rest0r17
  case hy0r17 => ((intro w hSw; (try dsimp only at hSw); go_simp) <;> with_reducible rfl)
  case rest0r17 =>
    (try simp only [Act.put, List.setIfInBounds_toArray, List.set_cons_zero, List.set_cons_succ])
    refine anyH_at #[true, false, false, false, false, false, false, false] (by kernel_rfl) ?_
    refine wpAnyH_take (i := 1) (oi := { dst := some 65, op := _, type := _, pos := _, after := _, guard := _ }) (v := ?vv1r17) rfl (by kernel_rfl) (by kernel_rfl) (by kernel_rfl) (fun _ _ _ h => h) (Or.inl ⟨by rfl, ?hy1r17⟩) (by assumption) ?rest1r17
    case hy1r17 => ((intro w hSw; (try dsimp only at hSw); go_simp) <;> with_reducible rfl)
    case rest1r17 =>
      (try simp only [Act.put, List.setIfInBounds_toArray, List.set_cons_zero, List.set_cons_succ])
      refine anyH_at #[true, true, false, false, false, false, false, false] (by kernel_rfl) ?_
      refine wpAnyH_take (i := 2) (oi := { dst := some 66, op := _, type := _, pos := _, after := _, guard := _ }) (v := ?vv2r17) rfl (by kernel_rfl) (by kernel_rfl) (by kernel_rfl) (fun _ _ _ h => h) (Or.inl ⟨by rfl, ?hy2r17⟩) (by assumption) ?rest2r17
      case hy2r17 => ((intro w hSw; (try dsimp only at hSw); go_simp) <;> with_reducible rfl)
      case rest2r17 =>
        (try simp only [Act.put, List.setIfInBounds_toArray, List.set_cons_zero, List.set_cons_succ])
        refine anyH_at #[true, true, true, false, false, false, false, false] (by kernel_rfl) ?_
        refine wpAnyH_take (i := 4) (oi := { dst := some 68, op := _, type := _, pos := _, after := _, guard := _ }) (v := ?vv4r17) rfl (by kernel_rfl) (by kernel_rfl) (by kernel_rfl) (fun _ _ _ h => h) (Or.inl ⟨by rfl, ?hy4r17⟩) (by assumption) ?rest4r17
        case hy4r17 => ((intro w hSw; (try dsimp only at hSw); go_simp) <;> with_reducible rfl)
        case rest4r17 =>
          (try simp only [Act.put, List.setIfInBounds_toArray, List.set_cons_zero, List.set_cons_succ])
          refine anyH_at #[true, true, true, false, true, false, false, false] (by kernel_rfl) ?_
          refine wpAnyH_ready (rs := [3]) (by kernel_rfl) (by simp) ?_
          refine AllReadyH.cons (o := { dst := some 67, op := _, type := _, pos := _, after := _, guard := _ }) rfl (fun Kk hKk => ?_) AllReadyH.nil
          go_simp
          refine (unhide HO _).mono ?_
          rintro _ wn ⟨rfl, hbl⟩
          have HB := hide (bthen (unhide HB) hbl)
          have HA := hide ((unhide HA).below hbl)
          clear hbl
          (try go_wp2_with fail)
          refine hKk.out _ _ ?_ (fun hHeld => ?_)
          · (try dsimp only)
            exact unhide HA
          clear hKk Kk
          (try simp only [List.setIfInBounds_toArray, List.set_cons_zero, List.set_cons_succ])
          refine anyH_at #[true, true, true, true, true, false, false, false] (by kernel_rfl) ?_
          refine wpAnyH_take (i := 5) (oi := { dst := some 69, op := _, type := _, pos := _, after := _, guard := _ }) (v := ?vv5r17) rfl (by kernel_rfl) (by kernel_rfl) (by kernel_rfl) (fun _ _ _ h => h) (Or.inl ⟨by rfl, ?hy5r17⟩) (by assumption) ?rest5r17
          case hy5r17 => ((intro w hSw; (try dsimp only at hSw); go_simp) <;> with_reducible rfl)
          case rest5r17 =>
            (try simp only [Act.put, List.setIfInBounds_toArray, List.set_cons_zero, List.set_cons_succ])
            refine anyH_at #[true, true, true, true, true, true, false, false] (by kernel_rfl) ?_
            refine wpAnyH_take (i := 6) (oi := { dst := some 4, op := _, type := _, pos := _, after := _, guard := _ }) (v := ?vv6r17) rfl (by kernel_rfl) (by kernel_rfl) (by kernel_rfl) (fun _ _ _ h => h) (Or.inl ⟨by rfl, ?hy6r17⟩) (by assumption) ?rest6r17
            case hy6r17 => ((intro w hSw; (try dsimp only at hSw); go_simp) <;> with_reducible rfl)
            case rest6r17 =>
              (try simp only [Act.put, List.setIfInBounds_toArray, List.set_cons_zero, List.set_cons_succ])
              refine anyH_at #[true, true, true, true, true, true, true, false] (by kernel_rfl) ?_
              refine wpAnyH_take (i := 7) (oi := { dst := some 5, op := _, type := _, pos := _, after := _, guard := _ }) (v := ?vv7r17) rfl (by kernel_rfl) (by kernel_rfl) (by kernel_rfl) (fun _ _ _ h => h) (Or.inl ⟨by rfl, ?hy7r17⟩) (by assumption) ?rest7r17
              case hy7r17 => ((intro w hSw; (try dsimp only at hSw); go_simp) <;> with_reducible rfl)
              case rest7r17 =>
                (try simp only [Act.put, List.setIfInBounds_toArray, List.set_cons_zero, List.set_cons_succ])
                refine anyH_at #[true, true, true, true, true, true, true, true] (by kernel_rfl) ?_
                refine wpAnyH_done (by kernel_rfl) ?_ _
                clear hHeld
                go_wp2_with fail
                go_ret2
                exact ⟨rfl, unhide HB⟩

set_option maxRecDepth 100000 in
set_option maxHeartbeats 4000000 in
theorem rc_k3 {w K X S K' X' S' V : Int} {n ok : Bool} (W : World) (hE : ∀ w : World, (if K' = K then (if X' = X then (if S' = S then Result.ok (Next.value (Value.bool true)) w else Result.ok (Next.value (Value.bool false)) w) else Result.ok (Next.value (Value.bool false)) w) else Result.ok (Next.value (Value.bool false)) w) = Result.ok (Next.value (Value.bool ok)) w) (k0 : (K == 0) = false) (k1 : (K == 1) = false) (k2 : (K == 2) = false) (k3 : (K == 3) = true) (HM : Hid (∀ W, Calls Try.prog 23 #[.int .i64 w] W fun r W' => r = .returned (.int .u64 V) ∧ Below W.heap.size W W')) (HO : Hid (∀ W, Calls Try.prog 13 #[.int .i64 w, .int .u64 V] W fun r W' => r = .returned (.agg #[.bool false, .int .i64 K', .int .i64 X', .int .u64 S']) ∧ Below W.heap.size W W')) :
    Calls Try.prog 28 #[.int .i64 w, .agg #[.bool n, .int .i64 K, .int .i64 X, .int .u64 S]] W fun r W' => r = .returned (.tuple #[.int .u64 V, .bool ok]) ∧ Below W.heap.size W W' := by
  go_enter Try.func28, Try.ntmps28
  go_wp2_with fail
  have HB := hide (below1 W (.cells #[.bool n, .int .i64 K, .int .i64 X, .int .u64 S] 30))
  have HA := hide (at4_new W (.bool n) (.int .i64 K) (.int .i64 X) (.int .u64 S) 30)
  have HR : Hid (Room W.heap.size 4 (W.alloc (.cells #[.bool n, .int .i64 K, .int .i64 X, .int .u64 S] 30))) := room4 (Below.refl _ _)
  refine (unhide HM _).mono ?_
  rintro _ wm ⟨rfl, hbl⟩
  have HR := hide ((unhide HR).below hbl)
  have HB := hide (bthen (unhide HB) hbl)
  have HA := hide ((unhide HA).below hbl)
  clear hbl
  obtain ⟨⟨v0, c0⟩, f0⟩ := (unhide HR) 0 (by omega)
  go_wp2_with fail
  have HB := hide (bset (unhide HB) _ (Nat.le_refl _) 0 (.bool false))
  have HA : Hid (At4 W.heap.size (.bool false) (.int .i64 K) (.int .i64 X) (.int .u64 S) (wm.setCell ⟨W.heap.size, 0, none⟩ (.bool false))) := ⟨World.cell?_setCell_same _ _ _ c0, set_off _ (by omega) (unhide HA).2.1, set_off _ (by omega) (unhide HA).2.2.1, set_off _ (by omega) (unhide HA).2.2.2⟩
  clear c0 f0 HR
  have HB := hide (unhide HB).drew
  have HA := hide ((unhide HA).below ((Below.refl _ _).drew))
  refine wp_region_held_drew (S := fun w' => w'.cell? ⟨W.heap.size, 0, none⟩ = some (.bool false) ∧ w'.cell? ⟨W.heap.size, 1, none⟩ = some (.int .i64 K) ∧ w'.cell? ⟨W.heap.size, 2, none⟩ = some (.int .i64 X) ∧ w'.cell? ⟨W.heap.size, 3, none⟩ = some (.int .u64 S)) (by kernel_rfl) ?_ (fun hHeld => ?_)
  · (try dsimp only)
    exact unhide HA
  refine anyH_at #[false, false, false, false, false, false, false, false] (by kernel_rfl) ?_
  refine wpAnyH_take (i := 0) (oi := { dst := some 64, op := _, type := _, pos := _, after := _, guard := _ }) (v := ?vv0r17) rfl (by kernel_rfl) (by kernel_rfl) (by kernel_rfl) (fun _ _ _ h => h) (Or.inl ⟨by rfl, ?hy0r17⟩) (by assumption) ?rest0r17
  case hy0r17 => ((intro w hSw; (try dsimp only at hSw); go_simp) <;> with_reducible rfl)
  case rest0r17 =>
    (try simp only [Act.put, List.setIfInBounds_toArray, List.set_cons_zero, List.set_cons_succ])
    refine anyH_at #[true, false, false, false, false, false, false, false] (by kernel_rfl) ?_
    refine wpAnyH_take (i := 1) (oi := { dst := some 65, op := _, type := _, pos := _, after := _, guard := _ }) (v := ?vv1r17) rfl (by kernel_rfl) (by kernel_rfl) (by kernel_rfl) (fun _ _ _ h => h) (Or.inl ⟨by rfl, ?hy1r17⟩) (by assumption) ?rest1r17
    case hy1r17 => ((intro w hSw; (try dsimp only at hSw); go_simp) <;> with_reducible rfl)
    case rest1r17 =>
      (try simp only [Act.put, List.setIfInBounds_toArray, List.set_cons_zero, List.set_cons_succ])
      refine anyH_at #[true, true, false, false, false, false, false, false] (by kernel_rfl) ?_
      refine wpAnyH_take (i := 2) (oi := { dst := some 66, op := _, type := _, pos := _, after := _, guard := _ }) (v := ?vv2r17) rfl (by kernel_rfl) (by kernel_rfl) (by kernel_rfl) (fun _ _ _ h => h) (Or.inl ⟨by rfl, ?hy2r17⟩) (by assumption) ?rest2r17
      case hy2r17 => ((intro w hSw; (try dsimp only at hSw); go_simp) <;> with_reducible rfl)
      case rest2r17 =>
        (try simp only [Act.put, List.setIfInBounds_toArray, List.set_cons_zero, List.set_cons_succ])
        refine anyH_at #[true, true, true, false, false, false, false, false] (by kernel_rfl) ?_
        refine wpAnyH_take (i := 4) (oi := { dst := some 68, op := _, type := _, pos := _, after := _, guard := _ }) (v := ?vv4r17) rfl (by kernel_rfl) (by kernel_rfl) (by kernel_rfl) (fun _ _ _ h => h) (Or.inl ⟨by rfl, ?hy4r17⟩) (by assumption) ?rest4r17
        case hy4r17 => ((intro w hSw; (try dsimp only at hSw); go_simp) <;> with_reducible rfl)
        case rest4r17 =>
          (try simp only [Act.put, List.setIfInBounds_toArray, List.set_cons_zero, List.set_cons_succ])
          refine anyH_at #[true, true, true, false, true, false, false, false] (by kernel_rfl) ?_
          refine wpAnyH_ready (rs := [3]) (by kernel_rfl) (by simp) ?_
          refine AllReadyH.cons (o := { dst := some 67, op := _, type := _, pos := _, after := _, guard := _ }) rfl (fun Kk hKk => ?_) AllReadyH.nil
          go_simp
          refine (unhide HO _).mono ?_
          rintro _ wn ⟨rfl, hbl⟩
          have HB := hide (bthen (unhide HB) hbl)
          have HA := hide ((unhide HA).below hbl)
          clear hbl
          (try go_wp2_with fail)
          refine hKk.out _ _ ?_ (fun hHeld => ?_)
          · (try dsimp only)
            exact unhide HA
          clear hKk Kk
          (try simp only [List.setIfInBounds_toArray, List.set_cons_zero, List.set_cons_succ])
          refine anyH_at #[true, true, true, true, true, false, false, false] (by kernel_rfl) ?_
          refine wpAnyH_take (i := 5) (oi := { dst := some 69, op := _, type := _, pos := _, after := _, guard := _ }) (v := ?vv5r17) rfl (by kernel_rfl) (by kernel_rfl) (by kernel_rfl) (fun _ _ _ h => h) (Or.inl ⟨by rfl, ?hy5r17⟩) (by assumption) ?rest5r17
          case hy5r17 => ((intro w hSw; (try dsimp only at hSw); go_simp) <;> with_reducible rfl)
          case rest5r17 =>
            (try simp only [Act.put, List.setIfInBounds_toArray, List.set_cons_zero, List.set_cons_succ])
            refine anyH_at #[true, true, true, true, true, true, false, false] (by kernel_rfl) ?_
            refine wpAnyH_take (i := 6) (oi := { dst := some 4, op := _, type := _, pos := _, after := _, guard := _ }) (v := ?vv6r17) rfl (by kernel_rfl) (by kernel_rfl) (by kernel_rfl) (fun _ _ _ h => h) (Or.inl ⟨by rfl, ?hy6r17⟩) (by assumption) ?rest6r17
            case hy6r17 => ((intro w hSw; (try dsimp only at hSw); go_simp) <;> with_reducible rfl)
            case rest6r17 =>
              (try simp only [Act.put, List.setIfInBounds_toArray, List.set_cons_zero, List.set_cons_succ])
              refine anyH_at #[true, true, true, true, true, true, true, false] (by kernel_rfl) ?_
              refine wpAnyH_take (i := 7) (oi := { dst := some 5, op := _, type := _, pos := _, after := _, guard := _ }) (v := ?vv7r17) rfl (by kernel_rfl) (by kernel_rfl) (by kernel_rfl) (fun _ _ _ h => h) (Or.inl ⟨by rfl, ?hy7r17⟩) (by assumption) ?rest7r17
              case hy7r17 => ((intro w hSw; (try dsimp only at hSw); go_simp) <;> with_reducible rfl)
              case rest7r17 =>
                (try simp only [Act.put, List.setIfInBounds_toArray, List.set_cons_zero, List.set_cons_succ])
                refine anyH_at #[true, true, true, true, true, true, true, true] (by kernel_rfl) ?_
                refine wpAnyH_done (by kernel_rfl) ?_ _
                clear hHeld
                go_wp2_with fail
                go_ret2
                exact ⟨rfl, unhide HB⟩

set_option maxRecDepth 100000 in
set_option maxHeartbeats 4000000 in
theorem rc_k1a {w K X S K' X' S' V f P T R : Int} {n n' ok : Bool} (W : World) (hE : ∀ w : World, (if n' = n then (if K' = K then (if X' = X then (if S' = S then Result.ok (Next.value (Value.bool true)) w else Result.ok (Next.value (Value.bool false)) w) else Result.ok (Next.value (Value.bool false)) w) else Result.ok (Next.value (Value.bool false)) w) else Result.ok (Next.value (Value.bool false)) w) = Result.ok (Next.value (Value.bool ok)) w) (k0 : (K == 0) = false) (k1 : (K == 1) = true) (HF : Hid (∀ W, Calls Try.prog 22 #[.int .i64 w] W fun r W' => r = .returned (.int .i64 f) ∧ Below W.heap.size W W')) (H2 : Hid (∀ W, Calls Try.prog 26 #[.int .i64 f] W fun r W' => r = .returned (.int .u64 P) ∧ Below W.heap.size W W')) (HT : Hid (∀ W, Calls Try.prog 20 #[.int .i64 w] W fun r W' => r = .returned (.int .i64 T) ∧ Below W.heap.size W W')) (d0 : decide (P ≤ S) = false) (t0 : ¬ T ≤ 0) (p0 : ¬ P = 0) (kr : S.tmod P = R) (HM : Hid (∀ W, Calls Try.prog 25 #[.int .i64 w, .bool n, .int .i64 0, .int .u64 R] W fun r W' => r = .returned (.int .u64 V) ∧ Below W.heap.size W W')) (HO : Hid (∀ W, Calls Try.prog 13 #[.int .i64 w, .int .u64 V] W fun r W' => r = .returned (.agg #[.bool n', .int .i64 K', .int .i64 X', .int .u64 S']) ∧ Below W.heap.size W W')) :
    Calls Try.prog 28 #[.int .i64 w, .agg #[.bool n, .int .i64 K, .int .i64 X, .int .u64 S]] W fun r W' => r = .returned (.tuple #[.int .u64 V, .bool ok]) ∧ Below W.heap.size W W' := by
  go_enter Try.func28, Try.ntmps28
  go_wp2_with fail
  have HB := hide (below1 W (.cells #[.bool n, .int .i64 K, .int .i64 X, .int .u64 S] 30))
  have HA := hide (at4_new W (.bool n) (.int .i64 K) (.int .i64 X) (.int .u64 S) 30)
  have HB := hide (unhide HB).drew
  have HA := hide ((unhide HA).below ((Below.refl _ _).drew))
  refine wp_region_held_drew (S := fun w' => w'.cell? ⟨W.heap.size, 0, none⟩ = some (.bool n) ∧ w'.cell? ⟨W.heap.size, 1, none⟩ = some (.int .i64 K) ∧ w'.cell? ⟨W.heap.size, 2, none⟩ = some (.int .i64 X) ∧ w'.cell? ⟨W.heap.size, 3, none⟩ = some (.int .u64 S)) (by kernel_rfl) ?_ (fun hHeld => ?_)
  · (try dsimp only)
    exact unhide HA
  refine anyH_at #[false, false, false, false, false, false] (by kernel_rfl) ?_
  refine wpAnyH_take (i := 0) (oi := { dst := some 18, op := _, type := _, pos := _, after := _, guard := _ }) (v := ?vv0r7) rfl (by kernel_rfl) (by kernel_rfl) (by kernel_rfl) (fun _ _ _ h => h) (Or.inl ⟨by rfl, ?hy0r7⟩) (by assumption) ?rest0r7
  case hy0r7 => ((intro w hSw; (try dsimp only at hSw); go_simp) <;> with_reducible rfl)
  case rest0r7 =>
    (try simp only [Act.put, List.setIfInBounds_toArray, List.set_cons_zero, List.set_cons_succ])
    refine anyH_at #[true, false, false, false, false, false] (by kernel_rfl) ?_
    refine wpAnyH_take (i := 1) (oi := { dst := some 19, op := _, type := _, pos := _, after := _, guard := _ }) (v := ?vv1r7) rfl (by kernel_rfl) (by kernel_rfl) (by kernel_rfl) (fun _ _ _ h => h) (Or.inl ⟨by rfl, ?hy1r7⟩) (by assumption) ?rest1r7
    case hy1r7 => ((intro w hSw; (try dsimp only at hSw); go_simp) <;> with_reducible rfl)
    case rest1r7 =>
      (try simp only [Act.put, List.setIfInBounds_toArray, List.set_cons_zero, List.set_cons_succ])
      refine anyH_at #[true, true, false, false, false, false] (by kernel_rfl) ?_
      refine wpAnyH_take (i := 2) (oi := { dst := some 20, op := _, type := _, pos := _, after := _, guard := _ }) (v := ?vv2r7) rfl (by kernel_rfl) (by kernel_rfl) (by kernel_rfl) (fun _ _ _ h => h) (Or.inl ⟨by rfl, ?hy2r7⟩) (by assumption) ?rest2r7
      case hy2r7 => ((intro w hSw; (try dsimp only at hSw); go_simp) <;> with_reducible rfl)
      case rest2r7 =>
        (try simp only [Act.put, List.setIfInBounds_toArray, List.set_cons_zero, List.set_cons_succ])
        refine anyH_at #[true, true, true, false, false, false] (by kernel_rfl) ?_
        refine wpAnyH_ready (rs := [3]) (by kernel_rfl) (by simp) ?_
        refine AllReadyH.cons (o := { dst := some 21, op := _, type := _, pos := _, after := _, guard := _ }) rfl (fun Kk hKk => ?_) AllReadyH.nil
        go_simp
        refine (unhide HF _).mono ?_
        rintro _ wn ⟨rfl, hbl⟩
        have HB := hide (bthen (unhide HB) hbl)
        have HA := hide ((unhide HA).below hbl)
        clear hbl
        (try go_wp2_with fail)
        refine hKk.out _ _ ?_ (fun hHeld => ?_)
        · (try dsimp only)
          exact unhide HA
        clear hKk Kk
        (try simp only [List.setIfInBounds_toArray, List.set_cons_zero, List.set_cons_succ])
        refine anyH_at #[true, true, true, true, false, false] (by kernel_rfl) ?_
        refine wpAnyH_ready (rs := [4]) (by kernel_rfl) (by simp) ?_
        refine AllReadyH.cons (o := { dst := some 22, op := _, type := _, pos := _, after := _, guard := _ }) rfl (fun Kk hKk => ?_) AllReadyH.nil
        go_simp
        refine (unhide H2 _).mono ?_
        rintro _ wn ⟨rfl, hbl⟩
        have HB := hide (bthen (unhide HB) hbl)
        have HA := hide ((unhide HA).below hbl)
        clear hbl
        (try go_wp2_with fail)
        refine hKk.out _ _ ?_ (fun hHeld => ?_)
        · (try dsimp only)
          exact unhide HA
        clear hKk Kk
        (try simp only [List.setIfInBounds_toArray, List.set_cons_zero, List.set_cons_succ])
        refine anyH_at #[true, true, true, true, true, false] (by kernel_rfl) ?_
        refine wpAnyH_take (i := 5) (oi := { dst := some 23, op := _, type := _, pos := _, after := _, guard := _ }) (v := ?vv5r7) rfl (by kernel_rfl) (by kernel_rfl) (by kernel_rfl) (fun _ _ _ h => h) (Or.inl ⟨by rfl, ?hy5r7⟩) (by assumption) ?rest5r7
        case hy5r7 => ((intro w hSw; (try dsimp only at hSw); go_simp) <;> with_reducible rfl)
        case rest5r7 =>
          (try simp only [Act.put, List.setIfInBounds_toArray, List.set_cons_zero, List.set_cons_succ])
          refine anyH_at #[true, true, true, true, true, true] (by kernel_rfl) ?_
          refine wpAnyH_done (by kernel_rfl) ?_ _
          clear hHeld
          go_wp2_with fail
          refine (unhide HT _).mono ?_
          rintro _ wt ⟨rfl, hbl⟩
          have HB := hide (bthen (unhide HB) hbl)
          have HA := hide ((unhide HA).below hbl)
          clear hbl
          go_wp2_with fail
          have HB := hide (unhide HB).drew
          have HA := hide ((unhide HA).below ((Below.refl _ _).drew))
          refine wp_region_held_drew (S := fun w' => w'.cell? ⟨W.heap.size, 0, none⟩ = some (.bool n) ∧ w'.cell? ⟨W.heap.size, 1, none⟩ = some (.int .i64 K) ∧ w'.cell? ⟨W.heap.size, 2, none⟩ = some (.int .i64 X) ∧ w'.cell? ⟨W.heap.size, 3, none⟩ = some (.int .u64 S)) (by kernel_rfl) ?_ (fun hHeld => ?_)
          · (try dsimp only)
            exact unhide HA
          refine anyH_at #[false, false, false, false, false, false, false, false, false, false, false, false] (by kernel_rfl) ?_
          refine wpAnyH_take (i := 0) (oi := { dst := some 42, op := _, type := _, pos := _, after := _, guard := _ }) (v := ?vv0r11) rfl (by kernel_rfl) (by kernel_rfl) (by kernel_rfl) (fun _ _ _ h => h) (Or.inl ⟨by rfl, ?hy0r11⟩) (by assumption) ?rest0r11
          case hy0r11 => ((intro w hSw; (try dsimp only at hSw); go_simp) <;> with_reducible rfl)
          case rest0r11 =>
            (try simp only [Act.put, List.setIfInBounds_toArray, List.set_cons_zero, List.set_cons_succ])
            refine anyH_at #[true, false, false, false, false, false, false, false, false, false, false, false] (by kernel_rfl) ?_
            refine wpAnyH_take (i := 1) (oi := { dst := some 43, op := _, type := _, pos := _, after := _, guard := _ }) (v := ?vv1r11) rfl (by kernel_rfl) (by kernel_rfl) (by kernel_rfl) (fun _ _ _ h => h) (Or.inl ⟨by rfl, ?hy1r11⟩) (by assumption) ?rest1r11
            case hy1r11 => ((intro w hSw; (try dsimp only at hSw); go_simp) <;> with_reducible rfl)
            case rest1r11 =>
              (try simp only [Act.put, List.setIfInBounds_toArray, List.set_cons_zero, List.set_cons_succ])
              refine anyH_at #[true, true, false, false, false, false, false, false, false, false, false, false] (by kernel_rfl) ?_
              refine wpAnyH_take (i := 2) (oi := { dst := some 44, op := _, type := _, pos := _, after := _, guard := _ }) (v := ?vv2r11) rfl (by kernel_rfl) (by kernel_rfl) (by kernel_rfl) (fun _ _ _ h => h) (Or.inl ⟨by rfl, ?hy2r11⟩) (by assumption) ?rest2r11
              case hy2r11 => ((intro w hSw; (try dsimp only at hSw); go_simp) <;> with_reducible rfl)
              case rest2r11 =>
                (try simp only [Act.put, List.setIfInBounds_toArray, List.set_cons_zero, List.set_cons_succ])
                refine anyH_at #[true, true, true, false, false, false, false, false, false, false, false, false] (by kernel_rfl) ?_
                refine wpAnyH_take (i := 3) (oi := { dst := some 45, op := _, type := _, pos := _, after := _, guard := _ }) (v := ?vv3r11) rfl (by kernel_rfl) (by kernel_rfl) (by kernel_rfl) (fun _ _ _ h => h) (Or.inl ⟨by rfl, ?hy3r11⟩) (by assumption) ?rest3r11
                case hy3r11 => ((intro w hSw; (try dsimp only at hSw); go_simp) <;> with_reducible rfl)
                case rest3r11 =>
                  (try simp only [Act.put, List.setIfInBounds_toArray, List.set_cons_zero, List.set_cons_succ])
                  refine anyH_at #[true, true, true, true, false, false, false, false, false, false, false, false] (by kernel_rfl) ?_
                  refine wpAnyH_take (i := 4) (oi := { dst := some 46, op := _, type := _, pos := _, after := _, guard := _ }) (v := ?vv4r11) rfl (by kernel_rfl) (by kernel_rfl) (by kernel_rfl) (fun _ _ _ h => h) (Or.inl ⟨by rfl, ?hy4r11⟩) (by assumption) ?rest4r11
                  case hy4r11 => ((intro w hSw; (try dsimp only at hSw); go_simp) <;> with_reducible rfl)
                  case rest4r11 =>
                    (try simp only [Act.put, List.setIfInBounds_toArray, List.set_cons_zero, List.set_cons_succ])
                    refine anyH_at #[true, true, true, true, true, false, false, false, false, false, false, false] (by kernel_rfl) ?_
                    refine wpAnyH_take (i := 5) (oi := { dst := some 47, op := _, type := _, pos := _, after := _, guard := _ }) (v := ?vv5r11) rfl (by kernel_rfl) (by kernel_rfl) (by kernel_rfl) (fun _ _ _ h => h) (Or.inl ⟨by rfl, ?hy5r11⟩) (by assumption) ?rest5r11
                    case hy5r11 => ((intro w hSw; (try dsimp only at hSw); go_simp) <;> with_reducible rfl)
                    case rest5r11 =>
                      (try simp only [Act.put, List.setIfInBounds_toArray, List.set_cons_zero, List.set_cons_succ])
                      refine anyH_at #[true, true, true, true, true, true, false, false, false, false, false, false] (by kernel_rfl) ?_
                      refine wpAnyH_take (i := 6) (oi := { dst := some 48, op := _, type := _, pos := _, after := _, guard := _ }) (v := ?vv6r11) rfl (by kernel_rfl) (by kernel_rfl) (by kernel_rfl) (fun _ _ _ h => h) (Or.inl ⟨by rfl, ?hy6r11⟩) (by assumption) ?rest6r11
                      case hy6r11 => ((intro w hSw; (try dsimp only at hSw); go_simp) <;> with_reducible rfl)
                      case rest6r11 =>
                        (try simp only [Act.put, List.setIfInBounds_toArray, List.set_cons_zero, List.set_cons_succ])
                        refine anyH_at #[true, true, true, true, true, true, true, false, false, false, false, false] (by kernel_rfl) ?_
                        refine wpAnyH_ready (rs := [7]) (by kernel_rfl) (by simp) ?_
                        refine AllReadyH.cons (o := { dst := some 49, op := _, type := _, pos := _, after := _, guard := _ }) rfl (fun Kk hKk => ?_) AllReadyH.nil
                        go_simp
                        refine (unhide HF _).mono ?_
                        rintro _ wn ⟨rfl, hbl⟩
                        have HB := hide (bthen (unhide HB) hbl)
                        have HA := hide ((unhide HA).below hbl)
                        clear hbl
                        (try go_wp2_with fail)
                        refine hKk.out _ _ ?_ (fun hHeld => ?_)
                        · (try dsimp only)
                          exact unhide HA
                        clear hKk Kk
                        (try simp only [List.setIfInBounds_toArray, List.set_cons_zero, List.set_cons_succ])
                        refine anyH_at #[true, true, true, true, true, true, true, true, false, false, false, false] (by kernel_rfl) ?_
                        refine wpAnyH_ready (rs := [8]) (by kernel_rfl) (by simp) ?_
                        refine AllReadyH.cons (o := { dst := some 50, op := _, type := _, pos := _, after := _, guard := _ }) rfl (fun Kk hKk => ?_) AllReadyH.nil
                        go_simp
                        refine (unhide H2 _).mono ?_
                        rintro _ wn ⟨rfl, hbl⟩
                        have HB := hide (bthen (unhide HB) hbl)
                        have HA := hide ((unhide HA).below hbl)
                        clear hbl
                        (try go_wp2_with fail)
                        refine hKk.out _ _ ?_ (fun hHeld => ?_)
                        · (try dsimp only)
                          exact unhide HA
                        clear hKk Kk
                        (try simp only [List.setIfInBounds_toArray, List.set_cons_zero, List.set_cons_succ])
                        refine anyH_at #[true, true, true, true, true, true, true, true, true, false, false, false] (by kernel_rfl) ?_
                        refine wpAnyH_take (i := 9) (oi := { dst := some 51, op := _, type := _, pos := _, after := _, guard := _ }) (v := ?vv9r11) rfl (by kernel_rfl) (by kernel_rfl) (by kernel_rfl) (fun _ _ _ h => h) (Or.inl ⟨by rfl, ?hy9r11⟩) (by assumption) ?rest9r11
                        case hy9r11 => ((intro w hSw; (try dsimp only at hSw); go_simp) <;> with_reducible rfl)
                        case rest9r11 =>
                          (try simp only [Act.put, List.setIfInBounds_toArray, List.set_cons_zero, List.set_cons_succ])
                          refine anyH_at #[true, true, true, true, true, true, true, true, true, true, false, false] (by kernel_rfl) ?_
                          refine wpAnyH_ready (rs := [10]) (by kernel_rfl) (by simp) ?_
                          refine AllReadyH.cons (o := { dst := some 52, op := _, type := _, pos := _, after := _, guard := _ }) rfl (fun Kk hKk => ?_) AllReadyH.nil
                          go_simp
                          refine (unhide HM _).mono ?_
                          rintro _ wn ⟨rfl, hbl⟩
                          have HB := hide (bthen (unhide HB) hbl)
                          have HA := hide ((unhide HA).below hbl)
                          clear hbl
                          (try go_wp2_with fail)
                          refine hKk.out _ _ ?_ (fun hHeld => ?_)
                          · (try dsimp only)
                            exact unhide HA
                          clear hKk Kk
                          (try simp only [List.setIfInBounds_toArray, List.set_cons_zero, List.set_cons_succ])
                          refine anyH_at #[true, true, true, true, true, true, true, true, true, true, true, false] (by kernel_rfl) ?_
                          refine wpAnyH_take (i := 11) (oi := { dst := some 6, op := _, type := _, pos := _, after := _, guard := _ }) (v := ?vv11r11) rfl (by kernel_rfl) (by kernel_rfl) (by kernel_rfl) (fun _ _ _ h => h) (Or.inl ⟨by rfl, ?hy11r11⟩) (by assumption) ?rest11r11
                          case hy11r11 => ((intro w hSw; (try dsimp only at hSw); go_simp) <;> with_reducible rfl)
                          case rest11r11 =>
                            (try simp only [Act.put, List.setIfInBounds_toArray, List.set_cons_zero, List.set_cons_succ])
                            refine anyH_at #[true, true, true, true, true, true, true, true, true, true, true, true] (by kernel_rfl) ?_
                            refine wpAnyH_done (by kernel_rfl) ?_ _
                            clear hHeld
                            go_wp2_with fail
                            have HB := hide (unhide HB).drew
                            have HA := hide ((unhide HA).below ((Below.refl _ _).drew))
                            refine wp_region_held_drew (S := fun w' => w'.cell? ⟨W.heap.size, 0, none⟩ = some (.bool n) ∧ w'.cell? ⟨W.heap.size, 1, none⟩ = some (.int .i64 K) ∧ w'.cell? ⟨W.heap.size, 2, none⟩ = some (.int .i64 X) ∧ w'.cell? ⟨W.heap.size, 3, none⟩ = some (.int .u64 S)) (by kernel_rfl) ?_ (fun hHeld => ?_)
                            · (try dsimp only)
                              exact unhide HA
                            refine anyH_at #[false, false, false, false, false, false, false, false] (by kernel_rfl) ?_
                            refine wpAnyH_take (i := 0) (oi := { dst := some 64, op := _, type := _, pos := _, after := _, guard := _ }) (v := ?vv0r17) rfl (by kernel_rfl) (by kernel_rfl) (by kernel_rfl) (fun _ _ _ h => h) (Or.inl ⟨by rfl, ?hy0r17⟩) (by assumption) ?rest0r17
                            case hy0r17 => ((intro w hSw; (try dsimp only at hSw); go_simp) <;> with_reducible rfl)
                            case rest0r17 =>
                              (try simp only [Act.put, List.setIfInBounds_toArray, List.set_cons_zero, List.set_cons_succ])
                              refine anyH_at #[true, false, false, false, false, false, false, false] (by kernel_rfl) ?_
                              refine wpAnyH_take (i := 1) (oi := { dst := some 65, op := _, type := _, pos := _, after := _, guard := _ }) (v := ?vv1r17) rfl (by kernel_rfl) (by kernel_rfl) (by kernel_rfl) (fun _ _ _ h => h) (Or.inl ⟨by rfl, ?hy1r17⟩) (by assumption) ?rest1r17
                              case hy1r17 => ((intro w hSw; (try dsimp only at hSw); go_simp) <;> with_reducible rfl)
                              case rest1r17 =>
                                (try simp only [Act.put, List.setIfInBounds_toArray, List.set_cons_zero, List.set_cons_succ])
                                refine anyH_at #[true, true, false, false, false, false, false, false] (by kernel_rfl) ?_
                                refine wpAnyH_take (i := 2) (oi := { dst := some 66, op := _, type := _, pos := _, after := _, guard := _ }) (v := ?vv2r17) rfl (by kernel_rfl) (by kernel_rfl) (by kernel_rfl) (fun _ _ _ h => h) (Or.inl ⟨by rfl, ?hy2r17⟩) (by assumption) ?rest2r17
                                case hy2r17 => ((intro w hSw; (try dsimp only at hSw); go_simp) <;> with_reducible rfl)
                                case rest2r17 =>
                                  (try simp only [Act.put, List.setIfInBounds_toArray, List.set_cons_zero, List.set_cons_succ])
                                  refine anyH_at #[true, true, true, false, false, false, false, false] (by kernel_rfl) ?_
                                  refine wpAnyH_take (i := 4) (oi := { dst := some 68, op := _, type := _, pos := _, after := _, guard := _ }) (v := ?vv4r17) rfl (by kernel_rfl) (by kernel_rfl) (by kernel_rfl) (fun _ _ _ h => h) (Or.inl ⟨by rfl, ?hy4r17⟩) (by assumption) ?rest4r17
                                  case hy4r17 => ((intro w hSw; (try dsimp only at hSw); go_simp) <;> with_reducible rfl)
                                  case rest4r17 =>
                                    (try simp only [Act.put, List.setIfInBounds_toArray, List.set_cons_zero, List.set_cons_succ])
                                    refine anyH_at #[true, true, true, false, true, false, false, false] (by kernel_rfl) ?_
                                    refine wpAnyH_ready (rs := [3]) (by kernel_rfl) (by simp) ?_
                                    refine AllReadyH.cons (o := { dst := some 67, op := _, type := _, pos := _, after := _, guard := _ }) rfl (fun Kk hKk => ?_) AllReadyH.nil
                                    go_simp
                                    refine (unhide HO _).mono ?_
                                    rintro _ wn ⟨rfl, hbl⟩
                                    have HB := hide (bthen (unhide HB) hbl)
                                    have HA := hide ((unhide HA).below hbl)
                                    clear hbl
                                    (try go_wp2_with fail)
                                    refine hKk.out _ _ ?_ (fun hHeld => ?_)
                                    · (try dsimp only)
                                      exact unhide HA
                                    clear hKk Kk
                                    (try simp only [List.setIfInBounds_toArray, List.set_cons_zero, List.set_cons_succ])
                                    refine anyH_at #[true, true, true, true, true, false, false, false] (by kernel_rfl) ?_
                                    refine wpAnyH_take (i := 5) (oi := { dst := some 69, op := _, type := _, pos := _, after := _, guard := _ }) (v := ?vv5r17) rfl (by kernel_rfl) (by kernel_rfl) (by kernel_rfl) (fun _ _ _ h => h) (Or.inl ⟨by rfl, ?hy5r17⟩) (by assumption) ?rest5r17
                                    case hy5r17 => ((intro w hSw; (try dsimp only at hSw); go_simp) <;> with_reducible rfl)
                                    case rest5r17 =>
                                      (try simp only [Act.put, List.setIfInBounds_toArray, List.set_cons_zero, List.set_cons_succ])
                                      refine anyH_at #[true, true, true, true, true, true, false, false] (by kernel_rfl) ?_
                                      refine wpAnyH_take (i := 6) (oi := { dst := some 4, op := _, type := _, pos := _, after := _, guard := _ }) (v := ?vv6r17) rfl (by kernel_rfl) (by kernel_rfl) (by kernel_rfl) (fun _ _ _ h => h) (Or.inl ⟨by rfl, ?hy6r17⟩) (by assumption) ?rest6r17
                                      case hy6r17 => ((intro w hSw; (try dsimp only at hSw); go_simp) <;> with_reducible rfl)
                                      case rest6r17 =>
                                        (try simp only [Act.put, List.setIfInBounds_toArray, List.set_cons_zero, List.set_cons_succ])
                                        refine anyH_at #[true, true, true, true, true, true, true, false] (by kernel_rfl) ?_
                                        refine wpAnyH_take (i := 7) (oi := { dst := some 5, op := _, type := _, pos := _, after := _, guard := _ }) (v := ?vv7r17) rfl (by kernel_rfl) (by kernel_rfl) (by kernel_rfl) (fun _ _ _ h => h) (Or.inl ⟨by rfl, ?hy7r17⟩) (by assumption) ?rest7r17
                                        case hy7r17 => ((intro w hSw; (try dsimp only at hSw); go_simp) <;> with_reducible rfl)
                                        case rest7r17 =>
                                          (try simp only [Act.put, List.setIfInBounds_toArray, List.set_cons_zero, List.set_cons_succ])
                                          refine anyH_at #[true, true, true, true, true, true, true, true] (by kernel_rfl) ?_
                                          refine wpAnyH_done (by kernel_rfl) ?_ _
                                          clear hHeld
                                          go_wp2_with fail
                                          go_ret2
                                          exact ⟨rfl, unhide HB⟩

set_option maxRecDepth 100000 in
set_option maxHeartbeats 4000000 in
theorem rc_k1b_m_lo {w K X S f P b G E : Int} {n : Bool} (W : World) (k0 : (K == 0) = false) (k1 : (K == 1) = true) (HF : Hid (∀ W, Calls Try.prog 22 #[.int .i64 w] W fun r W' => r = .returned (.int .i64 f) ∧ Below W.heap.size W W')) (H2 : Hid (∀ W, Calls Try.prog 26 #[.int .i64 f] W fun r W' => r = .returned (.int .u64 P) ∧ Below W.heap.size W W')) (HBb : Hid (∀ W, Calls Try.prog 40 #[.int .i64 w] W fun r W' => r = .returned (.int .i64 b) ∧ Below W.heap.size W W')) (d0 : decide (P ≤ S) = true) (xa : ¬ X < -5000) (xb : ¬ 5000 < X) (kb : IntKind.i64.wrap (X + b) = G) (ke : IntKind.i64.wrap (G + f) = E) (e0 : E < 0) :
    Calls Try.prog 28 #[.int .i64 w, .agg #[.bool n, .int .i64 K, .int .i64 X, .int .u64 S]] W fun r W' => r = .returned (.tuple #[.int .u64 0, .bool false]) ∧ Below W.heap.size W W' := by
  go_enter Try.func28, Try.ntmps28
  go_wp2_with fail
  have HB := hide (below1 W (.cells #[.bool n, .int .i64 K, .int .i64 X, .int .u64 S] 30))
  have HA := hide (at4_new W (.bool n) (.int .i64 K) (.int .i64 X) (.int .u64 S) 30)
  have HB := hide (unhide HB).drew
  have HA := hide ((unhide HA).below ((Below.refl _ _).drew))
  refine wp_region_held_drew (S := fun w' => w'.cell? ⟨W.heap.size, 0, none⟩ = some (.bool n) ∧ w'.cell? ⟨W.heap.size, 1, none⟩ = some (.int .i64 K) ∧ w'.cell? ⟨W.heap.size, 2, none⟩ = some (.int .i64 X) ∧ w'.cell? ⟨W.heap.size, 3, none⟩ = some (.int .u64 S)) (by kernel_rfl) ?_ (fun hHeld => ?_)
  · (try dsimp only)
    exact unhide HA
  refine anyH_at #[false, false, false, false, false, false] (by kernel_rfl) ?_
  refine wpAnyH_take (i := 0) (oi := { dst := some 18, op := _, type := _, pos := _, after := _, guard := _ }) (v := ?vv0r7) rfl (by kernel_rfl) (by kernel_rfl) (by kernel_rfl) (fun _ _ _ h => h) (Or.inl ⟨by rfl, ?hy0r7⟩) (by assumption) ?rest0r7
  case hy0r7 => ((intro w hSw; (try dsimp only at hSw); go_simp) <;> with_reducible rfl)
  case rest0r7 =>
    (try simp only [Act.put, List.setIfInBounds_toArray, List.set_cons_zero, List.set_cons_succ])
    refine anyH_at #[true, false, false, false, false, false] (by kernel_rfl) ?_
    refine wpAnyH_take (i := 1) (oi := { dst := some 19, op := _, type := _, pos := _, after := _, guard := _ }) (v := ?vv1r7) rfl (by kernel_rfl) (by kernel_rfl) (by kernel_rfl) (fun _ _ _ h => h) (Or.inl ⟨by rfl, ?hy1r7⟩) (by assumption) ?rest1r7
    case hy1r7 => ((intro w hSw; (try dsimp only at hSw); go_simp) <;> with_reducible rfl)
    case rest1r7 =>
      (try simp only [Act.put, List.setIfInBounds_toArray, List.set_cons_zero, List.set_cons_succ])
      refine anyH_at #[true, true, false, false, false, false] (by kernel_rfl) ?_
      refine wpAnyH_take (i := 2) (oi := { dst := some 20, op := _, type := _, pos := _, after := _, guard := _ }) (v := ?vv2r7) rfl (by kernel_rfl) (by kernel_rfl) (by kernel_rfl) (fun _ _ _ h => h) (Or.inl ⟨by rfl, ?hy2r7⟩) (by assumption) ?rest2r7
      case hy2r7 => ((intro w hSw; (try dsimp only at hSw); go_simp) <;> with_reducible rfl)
      case rest2r7 =>
        (try simp only [Act.put, List.setIfInBounds_toArray, List.set_cons_zero, List.set_cons_succ])
        refine anyH_at #[true, true, true, false, false, false] (by kernel_rfl) ?_
        refine wpAnyH_ready (rs := [3]) (by kernel_rfl) (by simp) ?_
        refine AllReadyH.cons (o := { dst := some 21, op := _, type := _, pos := _, after := _, guard := _ }) rfl (fun Kk hKk => ?_) AllReadyH.nil
        go_simp
        refine (unhide HF _).mono ?_
        rintro _ wn ⟨rfl, hbl⟩
        have HB := hide (bthen (unhide HB) hbl)
        have HA := hide ((unhide HA).below hbl)
        clear hbl
        (try go_wp2_with fail)
        refine hKk.out _ _ ?_ (fun hHeld => ?_)
        · (try dsimp only)
          exact unhide HA
        clear hKk Kk
        (try simp only [List.setIfInBounds_toArray, List.set_cons_zero, List.set_cons_succ])
        refine anyH_at #[true, true, true, true, false, false] (by kernel_rfl) ?_
        refine wpAnyH_ready (rs := [4]) (by kernel_rfl) (by simp) ?_
        refine AllReadyH.cons (o := { dst := some 22, op := _, type := _, pos := _, after := _, guard := _ }) rfl (fun Kk hKk => ?_) AllReadyH.nil
        go_simp
        refine (unhide H2 _).mono ?_
        rintro _ wn ⟨rfl, hbl⟩
        have HB := hide (bthen (unhide HB) hbl)
        have HA := hide ((unhide HA).below hbl)
        clear hbl
        (try go_wp2_with fail)
        refine hKk.out _ _ ?_ (fun hHeld => ?_)
        · (try dsimp only)
          exact unhide HA
        clear hKk Kk
        (try simp only [List.setIfInBounds_toArray, List.set_cons_zero, List.set_cons_succ])
        refine anyH_at #[true, true, true, true, true, false] (by kernel_rfl) ?_
        refine wpAnyH_take (i := 5) (oi := { dst := some 23, op := _, type := _, pos := _, after := _, guard := _ }) (v := ?vv5r7) rfl (by kernel_rfl) (by kernel_rfl) (by kernel_rfl) (fun _ _ _ h => h) (Or.inl ⟨by rfl, ?hy5r7⟩) (by assumption) ?rest5r7
        case hy5r7 => ((intro w hSw; (try dsimp only at hSw); go_simp) <;> with_reducible rfl)
        case rest5r7 =>
          (try simp only [Act.put, List.setIfInBounds_toArray, List.set_cons_zero, List.set_cons_succ])
          refine anyH_at #[true, true, true, true, true, true] (by kernel_rfl) ?_
          refine wpAnyH_done (by kernel_rfl) ?_ _
          clear hHeld
          go_wp2_with fail
          have HB := hide (unhide HB).drew
          have HA := hide ((unhide HA).below ((Below.refl _ _).drew))
          refine wp_region_held_drew (S := fun w' => w'.cell? ⟨W.heap.size, 0, none⟩ = some (.bool n) ∧ w'.cell? ⟨W.heap.size, 1, none⟩ = some (.int .i64 K) ∧ w'.cell? ⟨W.heap.size, 2, none⟩ = some (.int .i64 X) ∧ w'.cell? ⟨W.heap.size, 3, none⟩ = some (.int .u64 S)) (by kernel_rfl) ?_ (fun hHeld => ?_)
          · (try dsimp only)
            exact unhide HA
          refine anyH_at #[false, false, false, false, false, false, false, false, false, false, false] (by kernel_rfl) ?_
          refine wpAnyH_take (i := 0) (oi := { dst := some 24, op := _, type := _, pos := _, after := _, guard := _ }) (v := ?vv0r8) rfl (by kernel_rfl) (by kernel_rfl) (by kernel_rfl) (fun _ _ _ h => h) (Or.inl ⟨by rfl, ?hy0r8⟩) (by assumption) ?rest0r8
          case hy0r8 => ((intro w hSw; (try dsimp only at hSw); go_simp) <;> with_reducible rfl)
          case rest0r8 =>
            (try simp only [Act.put, List.setIfInBounds_toArray, List.set_cons_zero, List.set_cons_succ])
            refine anyH_at #[true, false, false, false, false, false, false, false, false, false, false] (by kernel_rfl) ?_
            refine wpAnyH_take (i := 1) (oi := { dst := some 25, op := _, type := _, pos := _, after := _, guard := _ }) (v := ?vv1r8) rfl (by kernel_rfl) (by kernel_rfl) (by kernel_rfl) (fun _ _ _ h => h) (Or.inl ⟨by rfl, ?hy1r8⟩) (by assumption) ?rest1r8
            case hy1r8 => ((intro w hSw; (try dsimp only at hSw); go_simp) <;> with_reducible rfl)
            case rest1r8 =>
              (try simp only [Act.put, List.setIfInBounds_toArray, List.set_cons_zero, List.set_cons_succ])
              refine anyH_at #[true, true, false, false, false, false, false, false, false, false, false] (by kernel_rfl) ?_
              refine wpAnyH_take (i := 2) (oi := { dst := some 26, op := _, type := _, pos := _, after := _, guard := _ }) (v := ?vv2r8) rfl (by kernel_rfl) (by kernel_rfl) (by kernel_rfl) (fun _ _ _ h => h) (Or.inl ⟨by rfl, ?hy2r8⟩) (by assumption) ?rest2r8
              case hy2r8 => ((intro w hSw; (try dsimp only at hSw); go_simp) <;> with_reducible rfl)
              case rest2r8 =>
                (try simp only [Act.put, List.setIfInBounds_toArray, List.set_cons_zero, List.set_cons_succ])
                refine anyH_at #[true, true, true, false, false, false, false, false, false, false, false] (by kernel_rfl) ?_
                refine wpAnyH_take (i := 3) (oi := { dst := some 27, op := _, type := _, pos := _, after := _, guard := _ }) (v := ?vv3r8) rfl (by kernel_rfl) (by kernel_rfl) (by kernel_rfl) (fun _ _ _ h => h) (Or.inl ⟨by rfl, ?hy3r8⟩) (by assumption) ?rest3r8
                case hy3r8 => ((intro w hSw; (try dsimp only at hSw); go_simp) <;> with_reducible rfl)
                case rest3r8 =>
                  (try simp only [Act.put, List.setIfInBounds_toArray, List.set_cons_zero, List.set_cons_succ])
                  refine anyH_at #[true, true, true, true, false, false, false, false, false, false, false] (by kernel_rfl) ?_
                  refine wpAnyH_take (i := 4) (oi := { dst := some 28, op := _, type := _, pos := _, after := _, guard := _ }) (v := ?vv4r8) rfl (by kernel_rfl) (by kernel_rfl) (by kernel_rfl) (fun _ _ _ h => h) (Or.inl ⟨by rfl, ?hy4r8⟩) (by assumption) ?rest4r8
                  case hy4r8 => ((intro w hSw; (try dsimp only at hSw); go_simp) <;> with_reducible rfl)
                  case rest4r8 =>
                    (try simp only [Act.put, List.setIfInBounds_toArray, List.set_cons_zero, List.set_cons_succ])
                    refine anyH_at #[true, true, true, true, true, false, false, false, false, false, false] (by kernel_rfl) ?_
                    refine wpAnyH_take (i := 7) (oi := { dst := some 31, op := _, type := _, pos := _, after := _, guard := _ }) (v := ?vv7r8) rfl (by kernel_rfl) (by kernel_rfl) (by kernel_rfl) (fun _ _ _ h => h) (Or.inl ⟨by rfl, ?hy7r8⟩) (by assumption) ?rest7r8
                    case hy7r8 => ((intro w hSw; (try dsimp only at hSw); go_simp) <;> with_reducible rfl)
                    case rest7r8 =>
                      (try simp only [Act.put, List.setIfInBounds_toArray, List.set_cons_zero, List.set_cons_succ])
                      refine anyH_at #[true, true, true, true, true, false, false, true, false, false, false] (by kernel_rfl) ?_
                      refine wpAnyH_ready (rs := [5]) (by kernel_rfl) (by simp) ?_
                      refine AllReadyH.cons (o := { dst := some 29, op := _, type := _, pos := _, after := _, guard := _ }) rfl (fun Kk hKk => ?_) AllReadyH.nil
                      go_simp
                      refine (unhide HBb _).mono ?_
                      rintro _ wn ⟨rfl, hbl⟩
                      have HB := hide (bthen (unhide HB) hbl)
                      have HA := hide ((unhide HA).below hbl)
                      clear hbl
                      (try go_wp2_with fail)
                      refine hKk.out _ _ ?_ (fun hHeld => ?_)
                      · (try dsimp only)
                        exact unhide HA
                      clear hKk Kk
                      (try simp only [List.setIfInBounds_toArray, List.set_cons_zero, List.set_cons_succ])
                      refine anyH_at #[true, true, true, true, true, true, false, true, false, false, false] (by kernel_rfl) ?_
                      refine wpAnyH_take (i := 6) (oi := { dst := some 30, op := _, type := _, pos := _, after := _, guard := _ }) (v := ?vv6r8) rfl (by kernel_rfl) (by kernel_rfl) (by kernel_rfl) (fun _ _ _ h => h) (Or.inl ⟨by rfl, ?hy6r8⟩) (by assumption) ?rest6r8
                      case hy6r8 => ((intro w hSw; (try dsimp only at hSw); go_simp) <;> with_reducible rfl)
                      case rest6r8 =>
                        (try simp only [Act.put, List.setIfInBounds_toArray, List.set_cons_zero, List.set_cons_succ])
                        refine anyH_at #[true, true, true, true, true, true, true, true, false, false, false] (by kernel_rfl) ?_
                        refine wpAnyH_ready (rs := [8]) (by kernel_rfl) (by simp) ?_
                        refine AllReadyH.cons (o := { dst := some 32, op := _, type := _, pos := _, after := _, guard := _ }) rfl (fun Kk hKk => ?_) AllReadyH.nil
                        go_simp
                        refine (unhide HF _).mono ?_
                        rintro _ wn ⟨rfl, hbl⟩
                        have HB := hide (bthen (unhide HB) hbl)
                        have HA := hide ((unhide HA).below hbl)
                        clear hbl
                        (try go_wp2_with fail)
                        refine hKk.out _ _ ?_ (fun hHeld => ?_)
                        · (try dsimp only)
                          exact unhide HA
                        clear hKk Kk
                        (try simp only [List.setIfInBounds_toArray, List.set_cons_zero, List.set_cons_succ])
                        refine anyH_at #[true, true, true, true, true, true, true, true, true, false, false] (by kernel_rfl) ?_
                        refine wpAnyH_take (i := 9) (oi := { dst := some 33, op := _, type := _, pos := _, after := _, guard := _ }) (v := ?vv9r8) rfl (by kernel_rfl) (by kernel_rfl) (by kernel_rfl) (fun _ _ _ h => h) (Or.inl ⟨by rfl, ?hy9r8⟩) (by assumption) ?rest9r8
                        case hy9r8 => ((intro w hSw; (try dsimp only at hSw); go_simp) <;> with_reducible rfl)
                        case rest9r8 =>
                          (try simp only [Act.put, List.setIfInBounds_toArray, List.set_cons_zero, List.set_cons_succ])
                          refine anyH_at #[true, true, true, true, true, true, true, true, true, true, false] (by kernel_rfl) ?_
                          refine wpAnyH_take (i := 10) (oi := { dst := some 7, op := _, type := _, pos := _, after := _, guard := _ }) (v := ?vv10r8) rfl (by kernel_rfl) (by kernel_rfl) (by kernel_rfl) (fun _ _ _ h => h) (Or.inl ⟨by rfl, ?hy10r8⟩) (by assumption) ?rest10r8
                          case hy10r8 => ((intro w hSw; (try dsimp only at hSw); go_simp) <;> with_reducible rfl)
                          case rest10r8 =>
                            (try simp only [Act.put, List.setIfInBounds_toArray, List.set_cons_zero, List.set_cons_succ])
                            refine anyH_at #[true, true, true, true, true, true, true, true, true, true, true] (by kernel_rfl) ?_
                            refine wpAnyH_done (by kernel_rfl) ?_ _
                            clear hHeld
                            go_wp2_with fail
                            go_ret2
                            exact ⟨rfl, unhide HB⟩

set_option maxRecDepth 100000 in
set_option maxHeartbeats 4000000 in
theorem rc_k1b_l_lo {w K X S f P b G E : Int} {n : Bool} (W : World) (k0 : (K == 0) = false) (k1 : (K == 1) = true) (HF : Hid (∀ W, Calls Try.prog 22 #[.int .i64 w] W fun r W' => r = .returned (.int .i64 f) ∧ Below W.heap.size W W')) (H2 : Hid (∀ W, Calls Try.prog 26 #[.int .i64 f] W fun r W' => r = .returned (.int .u64 P) ∧ Below W.heap.size W W')) (HBb : Hid (∀ W, Calls Try.prog 40 #[.int .i64 w] W fun r W' => r = .returned (.int .i64 b) ∧ Below W.heap.size W W')) (d0 : decide (P ≤ S) = true) (xa : X < -5000) (kb : IntKind.i64.wrap (-5000 + b) = G) (ke : IntKind.i64.wrap (G + f) = E) (e0 : E < 0) :
    Calls Try.prog 28 #[.int .i64 w, .agg #[.bool n, .int .i64 K, .int .i64 X, .int .u64 S]] W fun r W' => r = .returned (.tuple #[.int .u64 0, .bool false]) ∧ Below W.heap.size W W' := by
  go_enter Try.func28, Try.ntmps28
  go_wp2_with fail
  have HB := hide (below1 W (.cells #[.bool n, .int .i64 K, .int .i64 X, .int .u64 S] 30))
  have HA := hide (at4_new W (.bool n) (.int .i64 K) (.int .i64 X) (.int .u64 S) 30)
  have HB := hide (unhide HB).drew
  have HA := hide ((unhide HA).below ((Below.refl _ _).drew))
  refine wp_region_held_drew (S := fun w' => w'.cell? ⟨W.heap.size, 0, none⟩ = some (.bool n) ∧ w'.cell? ⟨W.heap.size, 1, none⟩ = some (.int .i64 K) ∧ w'.cell? ⟨W.heap.size, 2, none⟩ = some (.int .i64 X) ∧ w'.cell? ⟨W.heap.size, 3, none⟩ = some (.int .u64 S)) (by kernel_rfl) ?_ (fun hHeld => ?_)
  · (try dsimp only)
    exact unhide HA
  refine anyH_at #[false, false, false, false, false, false] (by kernel_rfl) ?_
  refine wpAnyH_take (i := 0) (oi := { dst := some 18, op := _, type := _, pos := _, after := _, guard := _ }) (v := ?vv0r7) rfl (by kernel_rfl) (by kernel_rfl) (by kernel_rfl) (fun _ _ _ h => h) (Or.inl ⟨by rfl, ?hy0r7⟩) (by assumption) ?rest0r7
  case hy0r7 => ((intro w hSw; (try dsimp only at hSw); go_simp) <;> with_reducible rfl)
  case rest0r7 =>
    (try simp only [Act.put, List.setIfInBounds_toArray, List.set_cons_zero, List.set_cons_succ])
    refine anyH_at #[true, false, false, false, false, false] (by kernel_rfl) ?_
    refine wpAnyH_take (i := 1) (oi := { dst := some 19, op := _, type := _, pos := _, after := _, guard := _ }) (v := ?vv1r7) rfl (by kernel_rfl) (by kernel_rfl) (by kernel_rfl) (fun _ _ _ h => h) (Or.inl ⟨by rfl, ?hy1r7⟩) (by assumption) ?rest1r7
    case hy1r7 => ((intro w hSw; (try dsimp only at hSw); go_simp) <;> with_reducible rfl)
    case rest1r7 =>
      (try simp only [Act.put, List.setIfInBounds_toArray, List.set_cons_zero, List.set_cons_succ])
      refine anyH_at #[true, true, false, false, false, false] (by kernel_rfl) ?_
      refine wpAnyH_take (i := 2) (oi := { dst := some 20, op := _, type := _, pos := _, after := _, guard := _ }) (v := ?vv2r7) rfl (by kernel_rfl) (by kernel_rfl) (by kernel_rfl) (fun _ _ _ h => h) (Or.inl ⟨by rfl, ?hy2r7⟩) (by assumption) ?rest2r7
      case hy2r7 => ((intro w hSw; (try dsimp only at hSw); go_simp) <;> with_reducible rfl)
      case rest2r7 =>
        (try simp only [Act.put, List.setIfInBounds_toArray, List.set_cons_zero, List.set_cons_succ])
        refine anyH_at #[true, true, true, false, false, false] (by kernel_rfl) ?_
        refine wpAnyH_ready (rs := [3]) (by kernel_rfl) (by simp) ?_
        refine AllReadyH.cons (o := { dst := some 21, op := _, type := _, pos := _, after := _, guard := _ }) rfl (fun Kk hKk => ?_) AllReadyH.nil
        go_simp
        refine (unhide HF _).mono ?_
        rintro _ wn ⟨rfl, hbl⟩
        have HB := hide (bthen (unhide HB) hbl)
        have HA := hide ((unhide HA).below hbl)
        clear hbl
        (try go_wp2_with fail)
        refine hKk.out _ _ ?_ (fun hHeld => ?_)
        · (try dsimp only)
          exact unhide HA
        clear hKk Kk
        (try simp only [List.setIfInBounds_toArray, List.set_cons_zero, List.set_cons_succ])
        refine anyH_at #[true, true, true, true, false, false] (by kernel_rfl) ?_
        refine wpAnyH_ready (rs := [4]) (by kernel_rfl) (by simp) ?_
        refine AllReadyH.cons (o := { dst := some 22, op := _, type := _, pos := _, after := _, guard := _ }) rfl (fun Kk hKk => ?_) AllReadyH.nil
        go_simp
        refine (unhide H2 _).mono ?_
        rintro _ wn ⟨rfl, hbl⟩
        have HB := hide (bthen (unhide HB) hbl)
        have HA := hide ((unhide HA).below hbl)
        clear hbl
        (try go_wp2_with fail)
        refine hKk.out _ _ ?_ (fun hHeld => ?_)
        · (try dsimp only)
          exact unhide HA
        clear hKk Kk
        (try simp only [List.setIfInBounds_toArray, List.set_cons_zero, List.set_cons_succ])
        refine anyH_at #[true, true, true, true, true, false] (by kernel_rfl) ?_
        refine wpAnyH_take (i := 5) (oi := { dst := some 23, op := _, type := _, pos := _, after := _, guard := _ }) (v := ?vv5r7) rfl (by kernel_rfl) (by kernel_rfl) (by kernel_rfl) (fun _ _ _ h => h) (Or.inl ⟨by rfl, ?hy5r7⟩) (by assumption) ?rest5r7
        case hy5r7 => ((intro w hSw; (try dsimp only at hSw); go_simp) <;> with_reducible rfl)
        case rest5r7 =>
          (try simp only [Act.put, List.setIfInBounds_toArray, List.set_cons_zero, List.set_cons_succ])
          refine anyH_at #[true, true, true, true, true, true] (by kernel_rfl) ?_
          refine wpAnyH_done (by kernel_rfl) ?_ _
          clear hHeld
          go_wp2_with fail
          have HB := hide (unhide HB).drew
          have HA := hide ((unhide HA).below ((Below.refl _ _).drew))
          refine wp_region_held_drew (S := fun w' => w'.cell? ⟨W.heap.size, 0, none⟩ = some (.bool n) ∧ w'.cell? ⟨W.heap.size, 1, none⟩ = some (.int .i64 K) ∧ w'.cell? ⟨W.heap.size, 2, none⟩ = some (.int .i64 X) ∧ w'.cell? ⟨W.heap.size, 3, none⟩ = some (.int .u64 S)) (by kernel_rfl) ?_ (fun hHeld => ?_)
          · (try dsimp only)
            exact unhide HA
          refine anyH_at #[false, false, false, false, false, false, false, false, false, false, false] (by kernel_rfl) ?_
          refine wpAnyH_take (i := 0) (oi := { dst := some 24, op := _, type := _, pos := _, after := _, guard := _ }) (v := ?vv0r8) rfl (by kernel_rfl) (by kernel_rfl) (by kernel_rfl) (fun _ _ _ h => h) (Or.inl ⟨by rfl, ?hy0r8⟩) (by assumption) ?rest0r8
          case hy0r8 => ((intro w hSw; (try dsimp only at hSw); go_simp) <;> with_reducible rfl)
          case rest0r8 =>
            (try simp only [Act.put, List.setIfInBounds_toArray, List.set_cons_zero, List.set_cons_succ])
            refine anyH_at #[true, false, false, false, false, false, false, false, false, false, false] (by kernel_rfl) ?_
            refine wpAnyH_take (i := 1) (oi := { dst := some 25, op := _, type := _, pos := _, after := _, guard := _ }) (v := ?vv1r8) rfl (by kernel_rfl) (by kernel_rfl) (by kernel_rfl) (fun _ _ _ h => h) (Or.inl ⟨by rfl, ?hy1r8⟩) (by assumption) ?rest1r8
            case hy1r8 => ((intro w hSw; (try dsimp only at hSw); go_simp) <;> with_reducible rfl)
            case rest1r8 =>
              (try simp only [Act.put, List.setIfInBounds_toArray, List.set_cons_zero, List.set_cons_succ])
              refine anyH_at #[true, true, false, false, false, false, false, false, false, false, false] (by kernel_rfl) ?_
              refine wpAnyH_take (i := 2) (oi := { dst := some 26, op := _, type := _, pos := _, after := _, guard := _ }) (v := ?vv2r8) rfl (by kernel_rfl) (by kernel_rfl) (by kernel_rfl) (fun _ _ _ h => h) (Or.inl ⟨by rfl, ?hy2r8⟩) (by assumption) ?rest2r8
              case hy2r8 => ((intro w hSw; (try dsimp only at hSw); go_simp) <;> with_reducible rfl)
              case rest2r8 =>
                (try simp only [Act.put, List.setIfInBounds_toArray, List.set_cons_zero, List.set_cons_succ])
                refine anyH_at #[true, true, true, false, false, false, false, false, false, false, false] (by kernel_rfl) ?_
                refine wpAnyH_take (i := 3) (oi := { dst := some 27, op := _, type := _, pos := _, after := _, guard := _ }) (v := ?vv3r8) rfl (by kernel_rfl) (by kernel_rfl) (by kernel_rfl) (fun _ _ _ h => h) (Or.inl ⟨by rfl, ?hy3r8⟩) (by assumption) ?rest3r8
                case hy3r8 => ((intro w hSw; (try dsimp only at hSw); go_simp) <;> with_reducible rfl)
                case rest3r8 =>
                  (try simp only [Act.put, List.setIfInBounds_toArray, List.set_cons_zero, List.set_cons_succ])
                  refine anyH_at #[true, true, true, true, false, false, false, false, false, false, false] (by kernel_rfl) ?_
                  refine wpAnyH_take (i := 4) (oi := { dst := some 28, op := _, type := _, pos := _, after := _, guard := _ }) (v := ?vv4r8) rfl (by kernel_rfl) (by kernel_rfl) (by kernel_rfl) (fun _ _ _ h => h) (Or.inl ⟨by rfl, ?hy4r8⟩) (by assumption) ?rest4r8
                  case hy4r8 => ((intro w hSw; (try dsimp only at hSw); go_simp) <;> with_reducible rfl)
                  case rest4r8 =>
                    (try simp only [Act.put, List.setIfInBounds_toArray, List.set_cons_zero, List.set_cons_succ])
                    refine anyH_at #[true, true, true, true, true, false, false, false, false, false, false] (by kernel_rfl) ?_
                    refine wpAnyH_take (i := 7) (oi := { dst := some 31, op := _, type := _, pos := _, after := _, guard := _ }) (v := ?vv7r8) rfl (by kernel_rfl) (by kernel_rfl) (by kernel_rfl) (fun _ _ _ h => h) (Or.inl ⟨by rfl, ?hy7r8⟩) (by assumption) ?rest7r8
                    case hy7r8 => ((intro w hSw; (try dsimp only at hSw); go_simp) <;> with_reducible rfl)
                    case rest7r8 =>
                      (try simp only [Act.put, List.setIfInBounds_toArray, List.set_cons_zero, List.set_cons_succ])
                      refine anyH_at #[true, true, true, true, true, false, false, true, false, false, false] (by kernel_rfl) ?_
                      refine wpAnyH_ready (rs := [5]) (by kernel_rfl) (by simp) ?_
                      refine AllReadyH.cons (o := { dst := some 29, op := _, type := _, pos := _, after := _, guard := _ }) rfl (fun Kk hKk => ?_) AllReadyH.nil
                      go_simp
                      refine (unhide HBb _).mono ?_
                      rintro _ wn ⟨rfl, hbl⟩
                      have HB := hide (bthen (unhide HB) hbl)
                      have HA := hide ((unhide HA).below hbl)
                      clear hbl
                      (try go_wp2_with fail)
                      refine hKk.out _ _ ?_ (fun hHeld => ?_)
                      · (try dsimp only)
                        exact unhide HA
                      clear hKk Kk
                      (try simp only [List.setIfInBounds_toArray, List.set_cons_zero, List.set_cons_succ])
                      refine anyH_at #[true, true, true, true, true, true, false, true, false, false, false] (by kernel_rfl) ?_
                      refine wpAnyH_take (i := 6) (oi := { dst := some 30, op := _, type := _, pos := _, after := _, guard := _ }) (v := ?vv6r8) rfl (by kernel_rfl) (by kernel_rfl) (by kernel_rfl) (fun _ _ _ h => h) (Or.inl ⟨by rfl, ?hy6r8⟩) (by assumption) ?rest6r8
                      case hy6r8 => ((intro w hSw; (try dsimp only at hSw); go_simp) <;> with_reducible rfl)
                      case rest6r8 =>
                        (try simp only [Act.put, List.setIfInBounds_toArray, List.set_cons_zero, List.set_cons_succ])
                        refine anyH_at #[true, true, true, true, true, true, true, true, false, false, false] (by kernel_rfl) ?_
                        refine wpAnyH_ready (rs := [8]) (by kernel_rfl) (by simp) ?_
                        refine AllReadyH.cons (o := { dst := some 32, op := _, type := _, pos := _, after := _, guard := _ }) rfl (fun Kk hKk => ?_) AllReadyH.nil
                        go_simp
                        refine (unhide HF _).mono ?_
                        rintro _ wn ⟨rfl, hbl⟩
                        have HB := hide (bthen (unhide HB) hbl)
                        have HA := hide ((unhide HA).below hbl)
                        clear hbl
                        (try go_wp2_with fail)
                        refine hKk.out _ _ ?_ (fun hHeld => ?_)
                        · (try dsimp only)
                          exact unhide HA
                        clear hKk Kk
                        (try simp only [List.setIfInBounds_toArray, List.set_cons_zero, List.set_cons_succ])
                        refine anyH_at #[true, true, true, true, true, true, true, true, true, false, false] (by kernel_rfl) ?_
                        refine wpAnyH_take (i := 9) (oi := { dst := some 33, op := _, type := _, pos := _, after := _, guard := _ }) (v := ?vv9r8) rfl (by kernel_rfl) (by kernel_rfl) (by kernel_rfl) (fun _ _ _ h => h) (Or.inl ⟨by rfl, ?hy9r8⟩) (by assumption) ?rest9r8
                        case hy9r8 => ((intro w hSw; (try dsimp only at hSw); go_simp) <;> with_reducible rfl)
                        case rest9r8 =>
                          (try simp only [Act.put, List.setIfInBounds_toArray, List.set_cons_zero, List.set_cons_succ])
                          refine anyH_at #[true, true, true, true, true, true, true, true, true, true, false] (by kernel_rfl) ?_
                          refine wpAnyH_take (i := 10) (oi := { dst := some 7, op := _, type := _, pos := _, after := _, guard := _ }) (v := ?vv10r8) rfl (by kernel_rfl) (by kernel_rfl) (by kernel_rfl) (fun _ _ _ h => h) (Or.inl ⟨by rfl, ?hy10r8⟩) (by assumption) ?rest10r8
                          case hy10r8 => ((intro w hSw; (try dsimp only at hSw); go_simp) <;> with_reducible rfl)
                          case rest10r8 =>
                            (try simp only [Act.put, List.setIfInBounds_toArray, List.set_cons_zero, List.set_cons_succ])
                            refine anyH_at #[true, true, true, true, true, true, true, true, true, true, true] (by kernel_rfl) ?_
                            refine wpAnyH_done (by kernel_rfl) ?_ _
                            clear hHeld
                            go_wp2_with fail
                            go_ret2
                            exact ⟨rfl, unhide HB⟩

set_option maxRecDepth 100000 in
set_option maxHeartbeats 4000000 in
theorem rc_k1b_m_hi {w K X S f P b G E T : Int} {n : Bool} (W : World) (k0 : (K == 0) = false) (k1 : (K == 1) = true) (HF : Hid (∀ W, Calls Try.prog 22 #[.int .i64 w] W fun r W' => r = .returned (.int .i64 f) ∧ Below W.heap.size W W')) (H2 : Hid (∀ W, Calls Try.prog 26 #[.int .i64 f] W fun r W' => r = .returned (.int .u64 P) ∧ Below W.heap.size W W')) (HBb : Hid (∀ W, Calls Try.prog 40 #[.int .i64 w] W fun r W' => r = .returned (.int .i64 b) ∧ Below W.heap.size W W')) (d0 : decide (P ≤ S) = true) (xa : ¬ X < -5000) (xb : ¬ 5000 < X) (kb : IntKind.i64.wrap (X + b) = G) (ke : IntKind.i64.wrap (G + f) = E) (HT : Hid (∀ W, Calls Try.prog 20 #[.int .i64 w] W fun r W' => r = .returned (.int .i64 T) ∧ Below W.heap.size W W')) (e0 : ¬ E < 0) (e1 : T ≤ E) :
    Calls Try.prog 28 #[.int .i64 w, .agg #[.bool n, .int .i64 K, .int .i64 X, .int .u64 S]] W fun r W' => r = .returned (.tuple #[.int .u64 0, .bool false]) ∧ Below W.heap.size W W' := by
  go_enter Try.func28, Try.ntmps28
  go_wp2_with fail
  have HB := hide (below1 W (.cells #[.bool n, .int .i64 K, .int .i64 X, .int .u64 S] 30))
  have HA := hide (at4_new W (.bool n) (.int .i64 K) (.int .i64 X) (.int .u64 S) 30)
  have HB := hide (unhide HB).drew
  have HA := hide ((unhide HA).below ((Below.refl _ _).drew))
  refine wp_region_held_drew (S := fun w' => w'.cell? ⟨W.heap.size, 0, none⟩ = some (.bool n) ∧ w'.cell? ⟨W.heap.size, 1, none⟩ = some (.int .i64 K) ∧ w'.cell? ⟨W.heap.size, 2, none⟩ = some (.int .i64 X) ∧ w'.cell? ⟨W.heap.size, 3, none⟩ = some (.int .u64 S)) (by kernel_rfl) ?_ (fun hHeld => ?_)
  · (try dsimp only)
    exact unhide HA
  refine anyH_at #[false, false, false, false, false, false] (by kernel_rfl) ?_
  refine wpAnyH_take (i := 0) (oi := { dst := some 18, op := _, type := _, pos := _, after := _, guard := _ }) (v := ?vv0r7) rfl (by kernel_rfl) (by kernel_rfl) (by kernel_rfl) (fun _ _ _ h => h) (Or.inl ⟨by rfl, ?hy0r7⟩) (by assumption) ?rest0r7
  case hy0r7 => ((intro w hSw; (try dsimp only at hSw); go_simp) <;> with_reducible rfl)
  case rest0r7 =>
    (try simp only [Act.put, List.setIfInBounds_toArray, List.set_cons_zero, List.set_cons_succ])
    refine anyH_at #[true, false, false, false, false, false] (by kernel_rfl) ?_
    refine wpAnyH_take (i := 1) (oi := { dst := some 19, op := _, type := _, pos := _, after := _, guard := _ }) (v := ?vv1r7) rfl (by kernel_rfl) (by kernel_rfl) (by kernel_rfl) (fun _ _ _ h => h) (Or.inl ⟨by rfl, ?hy1r7⟩) (by assumption) ?rest1r7
    case hy1r7 => ((intro w hSw; (try dsimp only at hSw); go_simp) <;> with_reducible rfl)
    case rest1r7 =>
      (try simp only [Act.put, List.setIfInBounds_toArray, List.set_cons_zero, List.set_cons_succ])
      refine anyH_at #[true, true, false, false, false, false] (by kernel_rfl) ?_
      refine wpAnyH_take (i := 2) (oi := { dst := some 20, op := _, type := _, pos := _, after := _, guard := _ }) (v := ?vv2r7) rfl (by kernel_rfl) (by kernel_rfl) (by kernel_rfl) (fun _ _ _ h => h) (Or.inl ⟨by rfl, ?hy2r7⟩) (by assumption) ?rest2r7
      case hy2r7 => ((intro w hSw; (try dsimp only at hSw); go_simp) <;> with_reducible rfl)
      case rest2r7 =>
        (try simp only [Act.put, List.setIfInBounds_toArray, List.set_cons_zero, List.set_cons_succ])
        refine anyH_at #[true, true, true, false, false, false] (by kernel_rfl) ?_
        refine wpAnyH_ready (rs := [3]) (by kernel_rfl) (by simp) ?_
        refine AllReadyH.cons (o := { dst := some 21, op := _, type := _, pos := _, after := _, guard := _ }) rfl (fun Kk hKk => ?_) AllReadyH.nil
        go_simp
        refine (unhide HF _).mono ?_
        rintro _ wn ⟨rfl, hbl⟩
        have HB := hide (bthen (unhide HB) hbl)
        have HA := hide ((unhide HA).below hbl)
        clear hbl
        (try go_wp2_with fail)
        refine hKk.out _ _ ?_ (fun hHeld => ?_)
        · (try dsimp only)
          exact unhide HA
        clear hKk Kk
        (try simp only [List.setIfInBounds_toArray, List.set_cons_zero, List.set_cons_succ])
        refine anyH_at #[true, true, true, true, false, false] (by kernel_rfl) ?_
        refine wpAnyH_ready (rs := [4]) (by kernel_rfl) (by simp) ?_
        refine AllReadyH.cons (o := { dst := some 22, op := _, type := _, pos := _, after := _, guard := _ }) rfl (fun Kk hKk => ?_) AllReadyH.nil
        go_simp
        refine (unhide H2 _).mono ?_
        rintro _ wn ⟨rfl, hbl⟩
        have HB := hide (bthen (unhide HB) hbl)
        have HA := hide ((unhide HA).below hbl)
        clear hbl
        (try go_wp2_with fail)
        refine hKk.out _ _ ?_ (fun hHeld => ?_)
        · (try dsimp only)
          exact unhide HA
        clear hKk Kk
        (try simp only [List.setIfInBounds_toArray, List.set_cons_zero, List.set_cons_succ])
        refine anyH_at #[true, true, true, true, true, false] (by kernel_rfl) ?_
        refine wpAnyH_take (i := 5) (oi := { dst := some 23, op := _, type := _, pos := _, after := _, guard := _ }) (v := ?vv5r7) rfl (by kernel_rfl) (by kernel_rfl) (by kernel_rfl) (fun _ _ _ h => h) (Or.inl ⟨by rfl, ?hy5r7⟩) (by assumption) ?rest5r7
        case hy5r7 => ((intro w hSw; (try dsimp only at hSw); go_simp) <;> with_reducible rfl)
        case rest5r7 =>
          (try simp only [Act.put, List.setIfInBounds_toArray, List.set_cons_zero, List.set_cons_succ])
          refine anyH_at #[true, true, true, true, true, true] (by kernel_rfl) ?_
          refine wpAnyH_done (by kernel_rfl) ?_ _
          clear hHeld
          go_wp2_with fail
          have HB := hide (unhide HB).drew
          have HA := hide ((unhide HA).below ((Below.refl _ _).drew))
          refine wp_region_held_drew (S := fun w' => w'.cell? ⟨W.heap.size, 0, none⟩ = some (.bool n) ∧ w'.cell? ⟨W.heap.size, 1, none⟩ = some (.int .i64 K) ∧ w'.cell? ⟨W.heap.size, 2, none⟩ = some (.int .i64 X) ∧ w'.cell? ⟨W.heap.size, 3, none⟩ = some (.int .u64 S)) (by kernel_rfl) ?_ (fun hHeld => ?_)
          · (try dsimp only)
            exact unhide HA
          refine anyH_at #[false, false, false, false, false, false, false, false, false, false, false] (by kernel_rfl) ?_
          refine wpAnyH_take (i := 0) (oi := { dst := some 24, op := _, type := _, pos := _, after := _, guard := _ }) (v := ?vv0r8) rfl (by kernel_rfl) (by kernel_rfl) (by kernel_rfl) (fun _ _ _ h => h) (Or.inl ⟨by rfl, ?hy0r8⟩) (by assumption) ?rest0r8
          case hy0r8 => ((intro w hSw; (try dsimp only at hSw); go_simp) <;> with_reducible rfl)
          case rest0r8 =>
            (try simp only [Act.put, List.setIfInBounds_toArray, List.set_cons_zero, List.set_cons_succ])
            refine anyH_at #[true, false, false, false, false, false, false, false, false, false, false] (by kernel_rfl) ?_
            refine wpAnyH_take (i := 1) (oi := { dst := some 25, op := _, type := _, pos := _, after := _, guard := _ }) (v := ?vv1r8) rfl (by kernel_rfl) (by kernel_rfl) (by kernel_rfl) (fun _ _ _ h => h) (Or.inl ⟨by rfl, ?hy1r8⟩) (by assumption) ?rest1r8
            case hy1r8 => ((intro w hSw; (try dsimp only at hSw); go_simp) <;> with_reducible rfl)
            case rest1r8 =>
              (try simp only [Act.put, List.setIfInBounds_toArray, List.set_cons_zero, List.set_cons_succ])
              refine anyH_at #[true, true, false, false, false, false, false, false, false, false, false] (by kernel_rfl) ?_
              refine wpAnyH_take (i := 2) (oi := { dst := some 26, op := _, type := _, pos := _, after := _, guard := _ }) (v := ?vv2r8) rfl (by kernel_rfl) (by kernel_rfl) (by kernel_rfl) (fun _ _ _ h => h) (Or.inl ⟨by rfl, ?hy2r8⟩) (by assumption) ?rest2r8
              case hy2r8 => ((intro w hSw; (try dsimp only at hSw); go_simp) <;> with_reducible rfl)
              case rest2r8 =>
                (try simp only [Act.put, List.setIfInBounds_toArray, List.set_cons_zero, List.set_cons_succ])
                refine anyH_at #[true, true, true, false, false, false, false, false, false, false, false] (by kernel_rfl) ?_
                refine wpAnyH_take (i := 3) (oi := { dst := some 27, op := _, type := _, pos := _, after := _, guard := _ }) (v := ?vv3r8) rfl (by kernel_rfl) (by kernel_rfl) (by kernel_rfl) (fun _ _ _ h => h) (Or.inl ⟨by rfl, ?hy3r8⟩) (by assumption) ?rest3r8
                case hy3r8 => ((intro w hSw; (try dsimp only at hSw); go_simp) <;> with_reducible rfl)
                case rest3r8 =>
                  (try simp only [Act.put, List.setIfInBounds_toArray, List.set_cons_zero, List.set_cons_succ])
                  refine anyH_at #[true, true, true, true, false, false, false, false, false, false, false] (by kernel_rfl) ?_
                  refine wpAnyH_take (i := 4) (oi := { dst := some 28, op := _, type := _, pos := _, after := _, guard := _ }) (v := ?vv4r8) rfl (by kernel_rfl) (by kernel_rfl) (by kernel_rfl) (fun _ _ _ h => h) (Or.inl ⟨by rfl, ?hy4r8⟩) (by assumption) ?rest4r8
                  case hy4r8 => ((intro w hSw; (try dsimp only at hSw); go_simp) <;> with_reducible rfl)
                  case rest4r8 =>
                    (try simp only [Act.put, List.setIfInBounds_toArray, List.set_cons_zero, List.set_cons_succ])
                    refine anyH_at #[true, true, true, true, true, false, false, false, false, false, false] (by kernel_rfl) ?_
                    refine wpAnyH_take (i := 7) (oi := { dst := some 31, op := _, type := _, pos := _, after := _, guard := _ }) (v := ?vv7r8) rfl (by kernel_rfl) (by kernel_rfl) (by kernel_rfl) (fun _ _ _ h => h) (Or.inl ⟨by rfl, ?hy7r8⟩) (by assumption) ?rest7r8
                    case hy7r8 => ((intro w hSw; (try dsimp only at hSw); go_simp) <;> with_reducible rfl)
                    case rest7r8 =>
                      (try simp only [Act.put, List.setIfInBounds_toArray, List.set_cons_zero, List.set_cons_succ])
                      refine anyH_at #[true, true, true, true, true, false, false, true, false, false, false] (by kernel_rfl) ?_
                      refine wpAnyH_ready (rs := [5]) (by kernel_rfl) (by simp) ?_
                      refine AllReadyH.cons (o := { dst := some 29, op := _, type := _, pos := _, after := _, guard := _ }) rfl (fun Kk hKk => ?_) AllReadyH.nil
                      go_simp
                      refine (unhide HBb _).mono ?_
                      rintro _ wn ⟨rfl, hbl⟩
                      have HB := hide (bthen (unhide HB) hbl)
                      have HA := hide ((unhide HA).below hbl)
                      clear hbl
                      (try go_wp2_with fail)
                      refine hKk.out _ _ ?_ (fun hHeld => ?_)
                      · (try dsimp only)
                        exact unhide HA
                      clear hKk Kk
                      (try simp only [List.setIfInBounds_toArray, List.set_cons_zero, List.set_cons_succ])
                      refine anyH_at #[true, true, true, true, true, true, false, true, false, false, false] (by kernel_rfl) ?_
                      refine wpAnyH_take (i := 6) (oi := { dst := some 30, op := _, type := _, pos := _, after := _, guard := _ }) (v := ?vv6r8) rfl (by kernel_rfl) (by kernel_rfl) (by kernel_rfl) (fun _ _ _ h => h) (Or.inl ⟨by rfl, ?hy6r8⟩) (by assumption) ?rest6r8
                      case hy6r8 => ((intro w hSw; (try dsimp only at hSw); go_simp) <;> with_reducible rfl)
                      case rest6r8 =>
                        (try simp only [Act.put, List.setIfInBounds_toArray, List.set_cons_zero, List.set_cons_succ])
                        refine anyH_at #[true, true, true, true, true, true, true, true, false, false, false] (by kernel_rfl) ?_
                        refine wpAnyH_ready (rs := [8]) (by kernel_rfl) (by simp) ?_
                        refine AllReadyH.cons (o := { dst := some 32, op := _, type := _, pos := _, after := _, guard := _ }) rfl (fun Kk hKk => ?_) AllReadyH.nil
                        go_simp
                        refine (unhide HF _).mono ?_
                        rintro _ wn ⟨rfl, hbl⟩
                        have HB := hide (bthen (unhide HB) hbl)
                        have HA := hide ((unhide HA).below hbl)
                        clear hbl
                        (try go_wp2_with fail)
                        refine hKk.out _ _ ?_ (fun hHeld => ?_)
                        · (try dsimp only)
                          exact unhide HA
                        clear hKk Kk
                        (try simp only [List.setIfInBounds_toArray, List.set_cons_zero, List.set_cons_succ])
                        refine anyH_at #[true, true, true, true, true, true, true, true, true, false, false] (by kernel_rfl) ?_
                        refine wpAnyH_take (i := 9) (oi := { dst := some 33, op := _, type := _, pos := _, after := _, guard := _ }) (v := ?vv9r8) rfl (by kernel_rfl) (by kernel_rfl) (by kernel_rfl) (fun _ _ _ h => h) (Or.inl ⟨by rfl, ?hy9r8⟩) (by assumption) ?rest9r8
                        case hy9r8 => ((intro w hSw; (try dsimp only at hSw); go_simp) <;> with_reducible rfl)
                        case rest9r8 =>
                          (try simp only [Act.put, List.setIfInBounds_toArray, List.set_cons_zero, List.set_cons_succ])
                          refine anyH_at #[true, true, true, true, true, true, true, true, true, true, false] (by kernel_rfl) ?_
                          refine wpAnyH_take (i := 10) (oi := { dst := some 7, op := _, type := _, pos := _, after := _, guard := _ }) (v := ?vv10r8) rfl (by kernel_rfl) (by kernel_rfl) (by kernel_rfl) (fun _ _ _ h => h) (Or.inl ⟨by rfl, ?hy10r8⟩) (by assumption) ?rest10r8
                          case hy10r8 => ((intro w hSw; (try dsimp only at hSw); go_simp) <;> with_reducible rfl)
                          case rest10r8 =>
                            (try simp only [Act.put, List.setIfInBounds_toArray, List.set_cons_zero, List.set_cons_succ])
                            refine anyH_at #[true, true, true, true, true, true, true, true, true, true, true] (by kernel_rfl) ?_
                            refine wpAnyH_done (by kernel_rfl) ?_ _
                            clear hHeld
                            go_wp2_with fail
                            refine (unhide HT _).mono ?_
                            rintro _ wt ⟨rfl, hbl⟩
                            have HB := hide (bthen (unhide HB) hbl)
                            have HA := hide ((unhide HA).below hbl)
                            clear hbl
                            go_wp2_with fail
                            go_ret2
                            exact ⟨rfl, unhide HB⟩

set_option maxRecDepth 100000 in
set_option maxHeartbeats 4000000 in
theorem rc_k1b_h_hi {w K X S f P b G E T : Int} {n : Bool} (W : World) (k0 : (K == 0) = false) (k1 : (K == 1) = true) (HF : Hid (∀ W, Calls Try.prog 22 #[.int .i64 w] W fun r W' => r = .returned (.int .i64 f) ∧ Below W.heap.size W W')) (H2 : Hid (∀ W, Calls Try.prog 26 #[.int .i64 f] W fun r W' => r = .returned (.int .u64 P) ∧ Below W.heap.size W W')) (HBb : Hid (∀ W, Calls Try.prog 40 #[.int .i64 w] W fun r W' => r = .returned (.int .i64 b) ∧ Below W.heap.size W W')) (d0 : decide (P ≤ S) = true) (xb : 5000 < X) (kb : IntKind.i64.wrap (5000 + b) = G) (ke : IntKind.i64.wrap (G + f) = E) (HT : Hid (∀ W, Calls Try.prog 20 #[.int .i64 w] W fun r W' => r = .returned (.int .i64 T) ∧ Below W.heap.size W W')) (e0 : ¬ E < 0) (e1 : T ≤ E) :
    Calls Try.prog 28 #[.int .i64 w, .agg #[.bool n, .int .i64 K, .int .i64 X, .int .u64 S]] W fun r W' => r = .returned (.tuple #[.int .u64 0, .bool false]) ∧ Below W.heap.size W W' := by
  go_enter Try.func28, Try.ntmps28
  go_wp2_with fail
  have HB := hide (below1 W (.cells #[.bool n, .int .i64 K, .int .i64 X, .int .u64 S] 30))
  have HA := hide (at4_new W (.bool n) (.int .i64 K) (.int .i64 X) (.int .u64 S) 30)
  have HB := hide (unhide HB).drew
  have HA := hide ((unhide HA).below ((Below.refl _ _).drew))
  refine wp_region_held_drew (S := fun w' => w'.cell? ⟨W.heap.size, 0, none⟩ = some (.bool n) ∧ w'.cell? ⟨W.heap.size, 1, none⟩ = some (.int .i64 K) ∧ w'.cell? ⟨W.heap.size, 2, none⟩ = some (.int .i64 X) ∧ w'.cell? ⟨W.heap.size, 3, none⟩ = some (.int .u64 S)) (by kernel_rfl) ?_ (fun hHeld => ?_)
  · (try dsimp only)
    exact unhide HA
  refine anyH_at #[false, false, false, false, false, false] (by kernel_rfl) ?_
  refine wpAnyH_take (i := 0) (oi := { dst := some 18, op := _, type := _, pos := _, after := _, guard := _ }) (v := ?vv0r7) rfl (by kernel_rfl) (by kernel_rfl) (by kernel_rfl) (fun _ _ _ h => h) (Or.inl ⟨by rfl, ?hy0r7⟩) (by assumption) ?rest0r7
  case hy0r7 => ((intro w hSw; (try dsimp only at hSw); go_simp) <;> with_reducible rfl)
  case rest0r7 =>
    (try simp only [Act.put, List.setIfInBounds_toArray, List.set_cons_zero, List.set_cons_succ])
    refine anyH_at #[true, false, false, false, false, false] (by kernel_rfl) ?_
    refine wpAnyH_take (i := 1) (oi := { dst := some 19, op := _, type := _, pos := _, after := _, guard := _ }) (v := ?vv1r7) rfl (by kernel_rfl) (by kernel_rfl) (by kernel_rfl) (fun _ _ _ h => h) (Or.inl ⟨by rfl, ?hy1r7⟩) (by assumption) ?rest1r7
    case hy1r7 => ((intro w hSw; (try dsimp only at hSw); go_simp) <;> with_reducible rfl)
    case rest1r7 =>
      (try simp only [Act.put, List.setIfInBounds_toArray, List.set_cons_zero, List.set_cons_succ])
      refine anyH_at #[true, true, false, false, false, false] (by kernel_rfl) ?_
      refine wpAnyH_take (i := 2) (oi := { dst := some 20, op := _, type := _, pos := _, after := _, guard := _ }) (v := ?vv2r7) rfl (by kernel_rfl) (by kernel_rfl) (by kernel_rfl) (fun _ _ _ h => h) (Or.inl ⟨by rfl, ?hy2r7⟩) (by assumption) ?rest2r7
      case hy2r7 => ((intro w hSw; (try dsimp only at hSw); go_simp) <;> with_reducible rfl)
      case rest2r7 =>
        (try simp only [Act.put, List.setIfInBounds_toArray, List.set_cons_zero, List.set_cons_succ])
        refine anyH_at #[true, true, true, false, false, false] (by kernel_rfl) ?_
        refine wpAnyH_ready (rs := [3]) (by kernel_rfl) (by simp) ?_
        refine AllReadyH.cons (o := { dst := some 21, op := _, type := _, pos := _, after := _, guard := _ }) rfl (fun Kk hKk => ?_) AllReadyH.nil
        go_simp
        refine (unhide HF _).mono ?_
        rintro _ wn ⟨rfl, hbl⟩
        have HB := hide (bthen (unhide HB) hbl)
        have HA := hide ((unhide HA).below hbl)
        clear hbl
        (try go_wp2_with fail)
        refine hKk.out _ _ ?_ (fun hHeld => ?_)
        · (try dsimp only)
          exact unhide HA
        clear hKk Kk
        (try simp only [List.setIfInBounds_toArray, List.set_cons_zero, List.set_cons_succ])
        refine anyH_at #[true, true, true, true, false, false] (by kernel_rfl) ?_
        refine wpAnyH_ready (rs := [4]) (by kernel_rfl) (by simp) ?_
        refine AllReadyH.cons (o := { dst := some 22, op := _, type := _, pos := _, after := _, guard := _ }) rfl (fun Kk hKk => ?_) AllReadyH.nil
        go_simp
        refine (unhide H2 _).mono ?_
        rintro _ wn ⟨rfl, hbl⟩
        have HB := hide (bthen (unhide HB) hbl)
        have HA := hide ((unhide HA).below hbl)
        clear hbl
        (try go_wp2_with fail)
        refine hKk.out _ _ ?_ (fun hHeld => ?_)
        · (try dsimp only)
          exact unhide HA
        clear hKk Kk
        (try simp only [List.setIfInBounds_toArray, List.set_cons_zero, List.set_cons_succ])
        refine anyH_at #[true, true, true, true, true, false] (by kernel_rfl) ?_
        refine wpAnyH_take (i := 5) (oi := { dst := some 23, op := _, type := _, pos := _, after := _, guard := _ }) (v := ?vv5r7) rfl (by kernel_rfl) (by kernel_rfl) (by kernel_rfl) (fun _ _ _ h => h) (Or.inl ⟨by rfl, ?hy5r7⟩) (by assumption) ?rest5r7
        case hy5r7 => ((intro w hSw; (try dsimp only at hSw); go_simp) <;> with_reducible rfl)
        case rest5r7 =>
          (try simp only [Act.put, List.setIfInBounds_toArray, List.set_cons_zero, List.set_cons_succ])
          refine anyH_at #[true, true, true, true, true, true] (by kernel_rfl) ?_
          refine wpAnyH_done (by kernel_rfl) ?_ _
          clear hHeld
          go_wp2_with fail
          have HB := hide (unhide HB).drew
          have HA := hide ((unhide HA).below ((Below.refl _ _).drew))
          refine wp_region_held_drew (S := fun w' => w'.cell? ⟨W.heap.size, 0, none⟩ = some (.bool n) ∧ w'.cell? ⟨W.heap.size, 1, none⟩ = some (.int .i64 K) ∧ w'.cell? ⟨W.heap.size, 2, none⟩ = some (.int .i64 X) ∧ w'.cell? ⟨W.heap.size, 3, none⟩ = some (.int .u64 S)) (by kernel_rfl) ?_ (fun hHeld => ?_)
          · (try dsimp only)
            exact unhide HA
          refine anyH_at #[false, false, false, false, false, false, false, false, false, false, false] (by kernel_rfl) ?_
          refine wpAnyH_take (i := 0) (oi := { dst := some 24, op := _, type := _, pos := _, after := _, guard := _ }) (v := ?vv0r8) rfl (by kernel_rfl) (by kernel_rfl) (by kernel_rfl) (fun _ _ _ h => h) (Or.inl ⟨by rfl, ?hy0r8⟩) (by assumption) ?rest0r8
          case hy0r8 => ((intro w hSw; (try dsimp only at hSw); go_simp) <;> with_reducible rfl)
          case rest0r8 =>
            (try simp only [Act.put, List.setIfInBounds_toArray, List.set_cons_zero, List.set_cons_succ])
            refine anyH_at #[true, false, false, false, false, false, false, false, false, false, false] (by kernel_rfl) ?_
            refine wpAnyH_take (i := 1) (oi := { dst := some 25, op := _, type := _, pos := _, after := _, guard := _ }) (v := ?vv1r8) rfl (by kernel_rfl) (by kernel_rfl) (by kernel_rfl) (fun _ _ _ h => h) (Or.inl ⟨by rfl, ?hy1r8⟩) (by assumption) ?rest1r8
            case hy1r8 => ((intro w hSw; (try dsimp only at hSw); go_simp) <;> with_reducible rfl)
            case rest1r8 =>
              (try simp only [Act.put, List.setIfInBounds_toArray, List.set_cons_zero, List.set_cons_succ])
              refine anyH_at #[true, true, false, false, false, false, false, false, false, false, false] (by kernel_rfl) ?_
              refine wpAnyH_take (i := 2) (oi := { dst := some 26, op := _, type := _, pos := _, after := _, guard := _ }) (v := ?vv2r8) rfl (by kernel_rfl) (by kernel_rfl) (by kernel_rfl) (fun _ _ _ h => h) (Or.inl ⟨by rfl, ?hy2r8⟩) (by assumption) ?rest2r8
              case hy2r8 => ((intro w hSw; (try dsimp only at hSw); go_simp) <;> with_reducible rfl)
              case rest2r8 =>
                (try simp only [Act.put, List.setIfInBounds_toArray, List.set_cons_zero, List.set_cons_succ])
                refine anyH_at #[true, true, true, false, false, false, false, false, false, false, false] (by kernel_rfl) ?_
                refine wpAnyH_take (i := 3) (oi := { dst := some 27, op := _, type := _, pos := _, after := _, guard := _ }) (v := ?vv3r8) rfl (by kernel_rfl) (by kernel_rfl) (by kernel_rfl) (fun _ _ _ h => h) (Or.inl ⟨by rfl, ?hy3r8⟩) (by assumption) ?rest3r8
                case hy3r8 => ((intro w hSw; (try dsimp only at hSw); go_simp) <;> with_reducible rfl)
                case rest3r8 =>
                  (try simp only [Act.put, List.setIfInBounds_toArray, List.set_cons_zero, List.set_cons_succ])
                  refine anyH_at #[true, true, true, true, false, false, false, false, false, false, false] (by kernel_rfl) ?_
                  refine wpAnyH_take (i := 4) (oi := { dst := some 28, op := _, type := _, pos := _, after := _, guard := _ }) (v := ?vv4r8) rfl (by kernel_rfl) (by kernel_rfl) (by kernel_rfl) (fun _ _ _ h => h) (Or.inl ⟨by rfl, ?hy4r8⟩) (by assumption) ?rest4r8
                  case hy4r8 => ((intro w hSw; (try dsimp only at hSw); go_simp) <;> with_reducible rfl)
                  case rest4r8 =>
                    (try simp only [Act.put, List.setIfInBounds_toArray, List.set_cons_zero, List.set_cons_succ])
                    refine anyH_at #[true, true, true, true, true, false, false, false, false, false, false] (by kernel_rfl) ?_
                    refine wpAnyH_take (i := 7) (oi := { dst := some 31, op := _, type := _, pos := _, after := _, guard := _ }) (v := ?vv7r8) rfl (by kernel_rfl) (by kernel_rfl) (by kernel_rfl) (fun _ _ _ h => h) (Or.inl ⟨by rfl, ?hy7r8⟩) (by assumption) ?rest7r8
                    case hy7r8 => ((intro w hSw; (try dsimp only at hSw); go_simp) <;> with_reducible rfl)
                    case rest7r8 =>
                      (try simp only [Act.put, List.setIfInBounds_toArray, List.set_cons_zero, List.set_cons_succ])
                      refine anyH_at #[true, true, true, true, true, false, false, true, false, false, false] (by kernel_rfl) ?_
                      refine wpAnyH_ready (rs := [5]) (by kernel_rfl) (by simp) ?_
                      refine AllReadyH.cons (o := { dst := some 29, op := _, type := _, pos := _, after := _, guard := _ }) rfl (fun Kk hKk => ?_) AllReadyH.nil
                      go_simp
                      refine (unhide HBb _).mono ?_
                      rintro _ wn ⟨rfl, hbl⟩
                      have HB := hide (bthen (unhide HB) hbl)
                      have HA := hide ((unhide HA).below hbl)
                      clear hbl
                      (try go_wp2_with fail)
                      refine hKk.out _ _ ?_ (fun hHeld => ?_)
                      · (try dsimp only)
                        exact unhide HA
                      clear hKk Kk
                      (try simp only [List.setIfInBounds_toArray, List.set_cons_zero, List.set_cons_succ])
                      refine anyH_at #[true, true, true, true, true, true, false, true, false, false, false] (by kernel_rfl) ?_
                      refine wpAnyH_take (i := 6) (oi := { dst := some 30, op := _, type := _, pos := _, after := _, guard := _ }) (v := ?vv6r8) rfl (by kernel_rfl) (by kernel_rfl) (by kernel_rfl) (fun _ _ _ h => h) (Or.inl ⟨by rfl, ?hy6r8⟩) (by assumption) ?rest6r8
                      case hy6r8 => ((intro w hSw; (try dsimp only at hSw); go_simp) <;> with_reducible rfl)
                      case rest6r8 =>
                        (try simp only [Act.put, List.setIfInBounds_toArray, List.set_cons_zero, List.set_cons_succ])
                        refine anyH_at #[true, true, true, true, true, true, true, true, false, false, false] (by kernel_rfl) ?_
                        refine wpAnyH_ready (rs := [8]) (by kernel_rfl) (by simp) ?_
                        refine AllReadyH.cons (o := { dst := some 32, op := _, type := _, pos := _, after := _, guard := _ }) rfl (fun Kk hKk => ?_) AllReadyH.nil
                        go_simp
                        refine (unhide HF _).mono ?_
                        rintro _ wn ⟨rfl, hbl⟩
                        have HB := hide (bthen (unhide HB) hbl)
                        have HA := hide ((unhide HA).below hbl)
                        clear hbl
                        (try go_wp2_with fail)
                        refine hKk.out _ _ ?_ (fun hHeld => ?_)
                        · (try dsimp only)
                          exact unhide HA
                        clear hKk Kk
                        (try simp only [List.setIfInBounds_toArray, List.set_cons_zero, List.set_cons_succ])
                        refine anyH_at #[true, true, true, true, true, true, true, true, true, false, false] (by kernel_rfl) ?_
                        refine wpAnyH_take (i := 9) (oi := { dst := some 33, op := _, type := _, pos := _, after := _, guard := _ }) (v := ?vv9r8) rfl (by kernel_rfl) (by kernel_rfl) (by kernel_rfl) (fun _ _ _ h => h) (Or.inl ⟨by rfl, ?hy9r8⟩) (by assumption) ?rest9r8
                        case hy9r8 => ((intro w hSw; (try dsimp only at hSw); go_simp) <;> with_reducible rfl)
                        case rest9r8 =>
                          (try simp only [Act.put, List.setIfInBounds_toArray, List.set_cons_zero, List.set_cons_succ])
                          refine anyH_at #[true, true, true, true, true, true, true, true, true, true, false] (by kernel_rfl) ?_
                          refine wpAnyH_take (i := 10) (oi := { dst := some 7, op := _, type := _, pos := _, after := _, guard := _ }) (v := ?vv10r8) rfl (by kernel_rfl) (by kernel_rfl) (by kernel_rfl) (fun _ _ _ h => h) (Or.inl ⟨by rfl, ?hy10r8⟩) (by assumption) ?rest10r8
                          case hy10r8 => ((intro w hSw; (try dsimp only at hSw); go_simp) <;> with_reducible rfl)
                          case rest10r8 =>
                            (try simp only [Act.put, List.setIfInBounds_toArray, List.set_cons_zero, List.set_cons_succ])
                            refine anyH_at #[true, true, true, true, true, true, true, true, true, true, true] (by kernel_rfl) ?_
                            refine wpAnyH_done (by kernel_rfl) ?_ _
                            clear hHeld
                            go_wp2_with fail
                            refine (unhide HT _).mono ?_
                            rintro _ wt ⟨rfl, hbl⟩
                            have HB := hide (bthen (unhide HB) hbl)
                            have HA := hide ((unhide HA).below hbl)
                            clear hbl
                            go_wp2_with fail
                            go_ret2
                            exact ⟨rfl, unhide HB⟩

set_option maxRecDepth 100000 in
set_option maxHeartbeats 4000000 in
theorem rc_k1b_ok {w K X S K' X' S' V f P b G E T R : Int} {n n' ok : Bool} (W : World) (hE : ∀ w : World, (if n' = n then (if K' = K then (if X' = X then (if S' = S then Result.ok (Next.value (Value.bool true)) w else Result.ok (Next.value (Value.bool false)) w) else Result.ok (Next.value (Value.bool false)) w) else Result.ok (Next.value (Value.bool false)) w) else Result.ok (Next.value (Value.bool false)) w) = Result.ok (Next.value (Value.bool ok)) w) (k0 : (K == 0) = false) (k1 : (K == 1) = true) (HF : Hid (∀ W, Calls Try.prog 22 #[.int .i64 w] W fun r W' => r = .returned (.int .i64 f) ∧ Below W.heap.size W W')) (H2 : Hid (∀ W, Calls Try.prog 26 #[.int .i64 f] W fun r W' => r = .returned (.int .u64 P) ∧ Below W.heap.size W W')) (HBb : Hid (∀ W, Calls Try.prog 40 #[.int .i64 w] W fun r W' => r = .returned (.int .i64 b) ∧ Below W.heap.size W W')) (d0 : decide (P ≤ S) = true) (xa : ¬ X < -5000) (xb : ¬ 5000 < X) (kb : IntKind.i64.wrap (X + b) = G) (ke : IntKind.i64.wrap (G + f) = E) (HT : Hid (∀ W, Calls Try.prog 20 #[.int .i64 w] W fun r W' => r = .returned (.int .i64 T) ∧ Below W.heap.size W W')) (e0 : ¬ E < 0) (e1 : ¬ T ≤ E) (p0 : ¬ P = 0) (kr : S.tmod P = R) (HM : Hid (∀ W, Calls Try.prog 25 #[.int .i64 w, .bool n, .int .i64 E, .int .u64 R] W fun r W' => r = .returned (.int .u64 V) ∧ Below W.heap.size W W')) (HO : Hid (∀ W, Calls Try.prog 13 #[.int .i64 w, .int .u64 V] W fun r W' => r = .returned (.agg #[.bool n', .int .i64 K', .int .i64 X', .int .u64 S']) ∧ Below W.heap.size W W')) :
    Calls Try.prog 28 #[.int .i64 w, .agg #[.bool n, .int .i64 K, .int .i64 X, .int .u64 S]] W fun r W' => r = .returned (.tuple #[.int .u64 V, .bool ok]) ∧ Below W.heap.size W W' := by
  go_enter Try.func28, Try.ntmps28
  go_wp2_with fail
  have HB := hide (below1 W (.cells #[.bool n, .int .i64 K, .int .i64 X, .int .u64 S] 30))
  have HA := hide (at4_new W (.bool n) (.int .i64 K) (.int .i64 X) (.int .u64 S) 30)
  have HB := hide (unhide HB).drew
  have HA := hide ((unhide HA).below ((Below.refl _ _).drew))
  refine wp_region_held_drew (S := fun w' => w'.cell? ⟨W.heap.size, 0, none⟩ = some (.bool n) ∧ w'.cell? ⟨W.heap.size, 1, none⟩ = some (.int .i64 K) ∧ w'.cell? ⟨W.heap.size, 2, none⟩ = some (.int .i64 X) ∧ w'.cell? ⟨W.heap.size, 3, none⟩ = some (.int .u64 S)) (by kernel_rfl) ?_ (fun hHeld => ?_)
  · (try dsimp only)
    exact unhide HA
  refine anyH_at #[false, false, false, false, false, false] (by kernel_rfl) ?_
  refine wpAnyH_take (i := 0) (oi := { dst := some 18, op := _, type := _, pos := _, after := _, guard := _ }) (v := ?vv0r7) rfl (by kernel_rfl) (by kernel_rfl) (by kernel_rfl) (fun _ _ _ h => h) (Or.inl ⟨by rfl, ?hy0r7⟩) (by assumption) ?rest0r7
  case hy0r7 => ((intro w hSw; (try dsimp only at hSw); go_simp) <;> with_reducible rfl)
  case rest0r7 =>
    (try simp only [Act.put, List.setIfInBounds_toArray, List.set_cons_zero, List.set_cons_succ])
    refine anyH_at #[true, false, false, false, false, false] (by kernel_rfl) ?_
    refine wpAnyH_take (i := 1) (oi := { dst := some 19, op := _, type := _, pos := _, after := _, guard := _ }) (v := ?vv1r7) rfl (by kernel_rfl) (by kernel_rfl) (by kernel_rfl) (fun _ _ _ h => h) (Or.inl ⟨by rfl, ?hy1r7⟩) (by assumption) ?rest1r7
    case hy1r7 => ((intro w hSw; (try dsimp only at hSw); go_simp) <;> with_reducible rfl)
    case rest1r7 =>
      (try simp only [Act.put, List.setIfInBounds_toArray, List.set_cons_zero, List.set_cons_succ])
      refine anyH_at #[true, true, false, false, false, false] (by kernel_rfl) ?_
      refine wpAnyH_take (i := 2) (oi := { dst := some 20, op := _, type := _, pos := _, after := _, guard := _ }) (v := ?vv2r7) rfl (by kernel_rfl) (by kernel_rfl) (by kernel_rfl) (fun _ _ _ h => h) (Or.inl ⟨by rfl, ?hy2r7⟩) (by assumption) ?rest2r7
      case hy2r7 => ((intro w hSw; (try dsimp only at hSw); go_simp) <;> with_reducible rfl)
      case rest2r7 =>
        (try simp only [Act.put, List.setIfInBounds_toArray, List.set_cons_zero, List.set_cons_succ])
        refine anyH_at #[true, true, true, false, false, false] (by kernel_rfl) ?_
        refine wpAnyH_ready (rs := [3]) (by kernel_rfl) (by simp) ?_
        refine AllReadyH.cons (o := { dst := some 21, op := _, type := _, pos := _, after := _, guard := _ }) rfl (fun Kk hKk => ?_) AllReadyH.nil
        go_simp
        refine (unhide HF _).mono ?_
        rintro _ wn ⟨rfl, hbl⟩
        have HB := hide (bthen (unhide HB) hbl)
        have HA := hide ((unhide HA).below hbl)
        clear hbl
        (try go_wp2_with fail)
        refine hKk.out _ _ ?_ (fun hHeld => ?_)
        · (try dsimp only)
          exact unhide HA
        clear hKk Kk
        (try simp only [List.setIfInBounds_toArray, List.set_cons_zero, List.set_cons_succ])
        refine anyH_at #[true, true, true, true, false, false] (by kernel_rfl) ?_
        refine wpAnyH_ready (rs := [4]) (by kernel_rfl) (by simp) ?_
        refine AllReadyH.cons (o := { dst := some 22, op := _, type := _, pos := _, after := _, guard := _ }) rfl (fun Kk hKk => ?_) AllReadyH.nil
        go_simp
        refine (unhide H2 _).mono ?_
        rintro _ wn ⟨rfl, hbl⟩
        have HB := hide (bthen (unhide HB) hbl)
        have HA := hide ((unhide HA).below hbl)
        clear hbl
        (try go_wp2_with fail)
        refine hKk.out _ _ ?_ (fun hHeld => ?_)
        · (try dsimp only)
          exact unhide HA
        clear hKk Kk
        (try simp only [List.setIfInBounds_toArray, List.set_cons_zero, List.set_cons_succ])
        refine anyH_at #[true, true, true, true, true, false] (by kernel_rfl) ?_
        refine wpAnyH_take (i := 5) (oi := { dst := some 23, op := _, type := _, pos := _, after := _, guard := _ }) (v := ?vv5r7) rfl (by kernel_rfl) (by kernel_rfl) (by kernel_rfl) (fun _ _ _ h => h) (Or.inl ⟨by rfl, ?hy5r7⟩) (by assumption) ?rest5r7
        case hy5r7 => ((intro w hSw; (try dsimp only at hSw); go_simp) <;> with_reducible rfl)
        case rest5r7 =>
          (try simp only [Act.put, List.setIfInBounds_toArray, List.set_cons_zero, List.set_cons_succ])
          refine anyH_at #[true, true, true, true, true, true] (by kernel_rfl) ?_
          refine wpAnyH_done (by kernel_rfl) ?_ _
          clear hHeld
          go_wp2_with fail
          have HB := hide (unhide HB).drew
          have HA := hide ((unhide HA).below ((Below.refl _ _).drew))
          refine wp_region_held_drew (S := fun w' => w'.cell? ⟨W.heap.size, 0, none⟩ = some (.bool n) ∧ w'.cell? ⟨W.heap.size, 1, none⟩ = some (.int .i64 K) ∧ w'.cell? ⟨W.heap.size, 2, none⟩ = some (.int .i64 X) ∧ w'.cell? ⟨W.heap.size, 3, none⟩ = some (.int .u64 S)) (by kernel_rfl) ?_ (fun hHeld => ?_)
          · (try dsimp only)
            exact unhide HA
          refine anyH_at #[false, false, false, false, false, false, false, false, false, false, false] (by kernel_rfl) ?_
          refine wpAnyH_take (i := 0) (oi := { dst := some 24, op := _, type := _, pos := _, after := _, guard := _ }) (v := ?vv0r8) rfl (by kernel_rfl) (by kernel_rfl) (by kernel_rfl) (fun _ _ _ h => h) (Or.inl ⟨by rfl, ?hy0r8⟩) (by assumption) ?rest0r8
          case hy0r8 => ((intro w hSw; (try dsimp only at hSw); go_simp) <;> with_reducible rfl)
          case rest0r8 =>
            (try simp only [Act.put, List.setIfInBounds_toArray, List.set_cons_zero, List.set_cons_succ])
            refine anyH_at #[true, false, false, false, false, false, false, false, false, false, false] (by kernel_rfl) ?_
            refine wpAnyH_take (i := 1) (oi := { dst := some 25, op := _, type := _, pos := _, after := _, guard := _ }) (v := ?vv1r8) rfl (by kernel_rfl) (by kernel_rfl) (by kernel_rfl) (fun _ _ _ h => h) (Or.inl ⟨by rfl, ?hy1r8⟩) (by assumption) ?rest1r8
            case hy1r8 => ((intro w hSw; (try dsimp only at hSw); go_simp) <;> with_reducible rfl)
            case rest1r8 =>
              (try simp only [Act.put, List.setIfInBounds_toArray, List.set_cons_zero, List.set_cons_succ])
              refine anyH_at #[true, true, false, false, false, false, false, false, false, false, false] (by kernel_rfl) ?_
              refine wpAnyH_take (i := 2) (oi := { dst := some 26, op := _, type := _, pos := _, after := _, guard := _ }) (v := ?vv2r8) rfl (by kernel_rfl) (by kernel_rfl) (by kernel_rfl) (fun _ _ _ h => h) (Or.inl ⟨by rfl, ?hy2r8⟩) (by assumption) ?rest2r8
              case hy2r8 => ((intro w hSw; (try dsimp only at hSw); go_simp) <;> with_reducible rfl)
              case rest2r8 =>
                (try simp only [Act.put, List.setIfInBounds_toArray, List.set_cons_zero, List.set_cons_succ])
                refine anyH_at #[true, true, true, false, false, false, false, false, false, false, false] (by kernel_rfl) ?_
                refine wpAnyH_take (i := 3) (oi := { dst := some 27, op := _, type := _, pos := _, after := _, guard := _ }) (v := ?vv3r8) rfl (by kernel_rfl) (by kernel_rfl) (by kernel_rfl) (fun _ _ _ h => h) (Or.inl ⟨by rfl, ?hy3r8⟩) (by assumption) ?rest3r8
                case hy3r8 => ((intro w hSw; (try dsimp only at hSw); go_simp) <;> with_reducible rfl)
                case rest3r8 =>
                  (try simp only [Act.put, List.setIfInBounds_toArray, List.set_cons_zero, List.set_cons_succ])
                  refine anyH_at #[true, true, true, true, false, false, false, false, false, false, false] (by kernel_rfl) ?_
                  refine wpAnyH_take (i := 4) (oi := { dst := some 28, op := _, type := _, pos := _, after := _, guard := _ }) (v := ?vv4r8) rfl (by kernel_rfl) (by kernel_rfl) (by kernel_rfl) (fun _ _ _ h => h) (Or.inl ⟨by rfl, ?hy4r8⟩) (by assumption) ?rest4r8
                  case hy4r8 => ((intro w hSw; (try dsimp only at hSw); go_simp) <;> with_reducible rfl)
                  case rest4r8 =>
                    (try simp only [Act.put, List.setIfInBounds_toArray, List.set_cons_zero, List.set_cons_succ])
                    refine anyH_at #[true, true, true, true, true, false, false, false, false, false, false] (by kernel_rfl) ?_
                    refine wpAnyH_take (i := 7) (oi := { dst := some 31, op := _, type := _, pos := _, after := _, guard := _ }) (v := ?vv7r8) rfl (by kernel_rfl) (by kernel_rfl) (by kernel_rfl) (fun _ _ _ h => h) (Or.inl ⟨by rfl, ?hy7r8⟩) (by assumption) ?rest7r8
                    case hy7r8 => ((intro w hSw; (try dsimp only at hSw); go_simp) <;> with_reducible rfl)
                    case rest7r8 =>
                      (try simp only [Act.put, List.setIfInBounds_toArray, List.set_cons_zero, List.set_cons_succ])
                      refine anyH_at #[true, true, true, true, true, false, false, true, false, false, false] (by kernel_rfl) ?_
                      refine wpAnyH_ready (rs := [5]) (by kernel_rfl) (by simp) ?_
                      refine AllReadyH.cons (o := { dst := some 29, op := _, type := _, pos := _, after := _, guard := _ }) rfl (fun Kk hKk => ?_) AllReadyH.nil
                      go_simp
                      refine (unhide HBb _).mono ?_
                      rintro _ wn ⟨rfl, hbl⟩
                      have HB := hide (bthen (unhide HB) hbl)
                      have HA := hide ((unhide HA).below hbl)
                      clear hbl
                      (try go_wp2_with fail)
                      refine hKk.out _ _ ?_ (fun hHeld => ?_)
                      · (try dsimp only)
                        exact unhide HA
                      clear hKk Kk
                      (try simp only [List.setIfInBounds_toArray, List.set_cons_zero, List.set_cons_succ])
                      refine anyH_at #[true, true, true, true, true, true, false, true, false, false, false] (by kernel_rfl) ?_
                      refine wpAnyH_take (i := 6) (oi := { dst := some 30, op := _, type := _, pos := _, after := _, guard := _ }) (v := ?vv6r8) rfl (by kernel_rfl) (by kernel_rfl) (by kernel_rfl) (fun _ _ _ h => h) (Or.inl ⟨by rfl, ?hy6r8⟩) (by assumption) ?rest6r8
                      case hy6r8 => ((intro w hSw; (try dsimp only at hSw); go_simp) <;> with_reducible rfl)
                      case rest6r8 =>
                        (try simp only [Act.put, List.setIfInBounds_toArray, List.set_cons_zero, List.set_cons_succ])
                        refine anyH_at #[true, true, true, true, true, true, true, true, false, false, false] (by kernel_rfl) ?_
                        refine wpAnyH_ready (rs := [8]) (by kernel_rfl) (by simp) ?_
                        refine AllReadyH.cons (o := { dst := some 32, op := _, type := _, pos := _, after := _, guard := _ }) rfl (fun Kk hKk => ?_) AllReadyH.nil
                        go_simp
                        refine (unhide HF _).mono ?_
                        rintro _ wn ⟨rfl, hbl⟩
                        have HB := hide (bthen (unhide HB) hbl)
                        have HA := hide ((unhide HA).below hbl)
                        clear hbl
                        (try go_wp2_with fail)
                        refine hKk.out _ _ ?_ (fun hHeld => ?_)
                        · (try dsimp only)
                          exact unhide HA
                        clear hKk Kk
                        (try simp only [List.setIfInBounds_toArray, List.set_cons_zero, List.set_cons_succ])
                        refine anyH_at #[true, true, true, true, true, true, true, true, true, false, false] (by kernel_rfl) ?_
                        refine wpAnyH_take (i := 9) (oi := { dst := some 33, op := _, type := _, pos := _, after := _, guard := _ }) (v := ?vv9r8) rfl (by kernel_rfl) (by kernel_rfl) (by kernel_rfl) (fun _ _ _ h => h) (Or.inl ⟨by rfl, ?hy9r8⟩) (by assumption) ?rest9r8
                        case hy9r8 => ((intro w hSw; (try dsimp only at hSw); go_simp) <;> with_reducible rfl)
                        case rest9r8 =>
                          (try simp only [Act.put, List.setIfInBounds_toArray, List.set_cons_zero, List.set_cons_succ])
                          refine anyH_at #[true, true, true, true, true, true, true, true, true, true, false] (by kernel_rfl) ?_
                          refine wpAnyH_take (i := 10) (oi := { dst := some 7, op := _, type := _, pos := _, after := _, guard := _ }) (v := ?vv10r8) rfl (by kernel_rfl) (by kernel_rfl) (by kernel_rfl) (fun _ _ _ h => h) (Or.inl ⟨by rfl, ?hy10r8⟩) (by assumption) ?rest10r8
                          case hy10r8 => ((intro w hSw; (try dsimp only at hSw); go_simp) <;> with_reducible rfl)
                          case rest10r8 =>
                            (try simp only [Act.put, List.setIfInBounds_toArray, List.set_cons_zero, List.set_cons_succ])
                            refine anyH_at #[true, true, true, true, true, true, true, true, true, true, true] (by kernel_rfl) ?_
                            refine wpAnyH_done (by kernel_rfl) ?_ _
                            clear hHeld
                            go_wp2_with fail
                            refine (unhide HT _).mono ?_
                            rintro _ wt ⟨rfl, hbl⟩
                            have HB := hide (bthen (unhide HB) hbl)
                            have HA := hide ((unhide HA).below hbl)
                            clear hbl
                            go_wp2_with fail
                            have HB := hide (unhide HB).drew
                            have HA := hide ((unhide HA).below ((Below.refl _ _).drew))
                            refine wp_region_held_drew (S := fun w' => w'.cell? ⟨W.heap.size, 0, none⟩ = some (.bool n) ∧ w'.cell? ⟨W.heap.size, 1, none⟩ = some (.int .i64 K) ∧ w'.cell? ⟨W.heap.size, 2, none⟩ = some (.int .i64 X) ∧ w'.cell? ⟨W.heap.size, 3, none⟩ = some (.int .u64 S)) (by kernel_rfl) ?_ (fun hHeld => ?_)
                            · (try dsimp only)
                              exact unhide HA
                            refine anyH_at #[false, false, false, false, false, false, false, false, false, false, false, false] (by kernel_rfl) ?_
                            refine wpAnyH_take (i := 0) (oi := { dst := some 42, op := _, type := _, pos := _, after := _, guard := _ }) (v := ?vv0r11) rfl (by kernel_rfl) (by kernel_rfl) (by kernel_rfl) (fun _ _ _ h => h) (Or.inl ⟨by rfl, ?hy0r11⟩) (by assumption) ?rest0r11
                            case hy0r11 => ((intro w hSw; (try dsimp only at hSw); go_simp) <;> with_reducible rfl)
                            case rest0r11 =>
                              (try simp only [Act.put, List.setIfInBounds_toArray, List.set_cons_zero, List.set_cons_succ])
                              refine anyH_at #[true, false, false, false, false, false, false, false, false, false, false, false] (by kernel_rfl) ?_
                              refine wpAnyH_take (i := 1) (oi := { dst := some 43, op := _, type := _, pos := _, after := _, guard := _ }) (v := ?vv1r11) rfl (by kernel_rfl) (by kernel_rfl) (by kernel_rfl) (fun _ _ _ h => h) (Or.inl ⟨by rfl, ?hy1r11⟩) (by assumption) ?rest1r11
                              case hy1r11 => ((intro w hSw; (try dsimp only at hSw); go_simp) <;> with_reducible rfl)
                              case rest1r11 =>
                                (try simp only [Act.put, List.setIfInBounds_toArray, List.set_cons_zero, List.set_cons_succ])
                                refine anyH_at #[true, true, false, false, false, false, false, false, false, false, false, false] (by kernel_rfl) ?_
                                refine wpAnyH_take (i := 2) (oi := { dst := some 44, op := _, type := _, pos := _, after := _, guard := _ }) (v := ?vv2r11) rfl (by kernel_rfl) (by kernel_rfl) (by kernel_rfl) (fun _ _ _ h => h) (Or.inl ⟨by rfl, ?hy2r11⟩) (by assumption) ?rest2r11
                                case hy2r11 => ((intro w hSw; (try dsimp only at hSw); go_simp) <;> with_reducible rfl)
                                case rest2r11 =>
                                  (try simp only [Act.put, List.setIfInBounds_toArray, List.set_cons_zero, List.set_cons_succ])
                                  refine anyH_at #[true, true, true, false, false, false, false, false, false, false, false, false] (by kernel_rfl) ?_
                                  refine wpAnyH_take (i := 3) (oi := { dst := some 45, op := _, type := _, pos := _, after := _, guard := _ }) (v := ?vv3r11) rfl (by kernel_rfl) (by kernel_rfl) (by kernel_rfl) (fun _ _ _ h => h) (Or.inl ⟨by rfl, ?hy3r11⟩) (by assumption) ?rest3r11
                                  case hy3r11 => ((intro w hSw; (try dsimp only at hSw); go_simp) <;> with_reducible rfl)
                                  case rest3r11 =>
                                    (try simp only [Act.put, List.setIfInBounds_toArray, List.set_cons_zero, List.set_cons_succ])
                                    refine anyH_at #[true, true, true, true, false, false, false, false, false, false, false, false] (by kernel_rfl) ?_
                                    refine wpAnyH_take (i := 4) (oi := { dst := some 46, op := _, type := _, pos := _, after := _, guard := _ }) (v := ?vv4r11) rfl (by kernel_rfl) (by kernel_rfl) (by kernel_rfl) (fun _ _ _ h => h) (Or.inl ⟨by rfl, ?hy4r11⟩) (by assumption) ?rest4r11
                                    case hy4r11 => ((intro w hSw; (try dsimp only at hSw); go_simp) <;> with_reducible rfl)
                                    case rest4r11 =>
                                      (try simp only [Act.put, List.setIfInBounds_toArray, List.set_cons_zero, List.set_cons_succ])
                                      refine anyH_at #[true, true, true, true, true, false, false, false, false, false, false, false] (by kernel_rfl) ?_
                                      refine wpAnyH_take (i := 5) (oi := { dst := some 47, op := _, type := _, pos := _, after := _, guard := _ }) (v := ?vv5r11) rfl (by kernel_rfl) (by kernel_rfl) (by kernel_rfl) (fun _ _ _ h => h) (Or.inl ⟨by rfl, ?hy5r11⟩) (by assumption) ?rest5r11
                                      case hy5r11 => ((intro w hSw; (try dsimp only at hSw); go_simp) <;> with_reducible rfl)
                                      case rest5r11 =>
                                        (try simp only [Act.put, List.setIfInBounds_toArray, List.set_cons_zero, List.set_cons_succ])
                                        refine anyH_at #[true, true, true, true, true, true, false, false, false, false, false, false] (by kernel_rfl) ?_
                                        refine wpAnyH_take (i := 6) (oi := { dst := some 48, op := _, type := _, pos := _, after := _, guard := _ }) (v := ?vv6r11) rfl (by kernel_rfl) (by kernel_rfl) (by kernel_rfl) (fun _ _ _ h => h) (Or.inl ⟨by rfl, ?hy6r11⟩) (by assumption) ?rest6r11
                                        case hy6r11 => ((intro w hSw; (try dsimp only at hSw); go_simp) <;> with_reducible rfl)
                                        case rest6r11 =>
                                          (try simp only [Act.put, List.setIfInBounds_toArray, List.set_cons_zero, List.set_cons_succ])
                                          refine anyH_at #[true, true, true, true, true, true, true, false, false, false, false, false] (by kernel_rfl) ?_
                                          refine wpAnyH_ready (rs := [7]) (by kernel_rfl) (by simp) ?_
                                          refine AllReadyH.cons (o := { dst := some 49, op := _, type := _, pos := _, after := _, guard := _ }) rfl (fun Kk hKk => ?_) AllReadyH.nil
                                          go_simp
                                          refine (unhide HF _).mono ?_
                                          rintro _ wn ⟨rfl, hbl⟩
                                          have HB := hide (bthen (unhide HB) hbl)
                                          have HA := hide ((unhide HA).below hbl)
                                          clear hbl
                                          (try go_wp2_with fail)
                                          refine hKk.out _ _ ?_ (fun hHeld => ?_)
                                          · (try dsimp only)
                                            exact unhide HA
                                          clear hKk Kk
                                          (try simp only [List.setIfInBounds_toArray, List.set_cons_zero, List.set_cons_succ])
                                          refine anyH_at #[true, true, true, true, true, true, true, true, false, false, false, false] (by kernel_rfl) ?_
                                          refine wpAnyH_ready (rs := [8]) (by kernel_rfl) (by simp) ?_
                                          refine AllReadyH.cons (o := { dst := some 50, op := _, type := _, pos := _, after := _, guard := _ }) rfl (fun Kk hKk => ?_) AllReadyH.nil
                                          go_simp
                                          refine (unhide H2 _).mono ?_
                                          rintro _ wn ⟨rfl, hbl⟩
                                          have HB := hide (bthen (unhide HB) hbl)
                                          have HA := hide ((unhide HA).below hbl)
                                          clear hbl
                                          (try go_wp2_with fail)
                                          refine hKk.out _ _ ?_ (fun hHeld => ?_)
                                          · (try dsimp only)
                                            exact unhide HA
                                          clear hKk Kk
                                          (try simp only [List.setIfInBounds_toArray, List.set_cons_zero, List.set_cons_succ])
                                          refine anyH_at #[true, true, true, true, true, true, true, true, true, false, false, false] (by kernel_rfl) ?_
                                          refine wpAnyH_take (i := 9) (oi := { dst := some 51, op := _, type := _, pos := _, after := _, guard := _ }) (v := ?vv9r11) rfl (by kernel_rfl) (by kernel_rfl) (by kernel_rfl) (fun _ _ _ h => h) (Or.inl ⟨by rfl, ?hy9r11⟩) (by assumption) ?rest9r11
                                          case hy9r11 => ((intro w hSw; (try dsimp only at hSw); go_simp) <;> with_reducible rfl)
                                          case rest9r11 =>
                                            (try simp only [Act.put, List.setIfInBounds_toArray, List.set_cons_zero, List.set_cons_succ])
                                            refine anyH_at #[true, true, true, true, true, true, true, true, true, true, false, false] (by kernel_rfl) ?_
                                            refine wpAnyH_ready (rs := [10]) (by kernel_rfl) (by simp) ?_
                                            refine AllReadyH.cons (o := { dst := some 52, op := _, type := _, pos := _, after := _, guard := _ }) rfl (fun Kk hKk => ?_) AllReadyH.nil
                                            go_simp
                                            refine (unhide HM _).mono ?_
                                            rintro _ wn ⟨rfl, hbl⟩
                                            have HB := hide (bthen (unhide HB) hbl)
                                            have HA := hide ((unhide HA).below hbl)
                                            clear hbl
                                            (try go_wp2_with fail)
                                            refine hKk.out _ _ ?_ (fun hHeld => ?_)
                                            · (try dsimp only)
                                              exact unhide HA
                                            clear hKk Kk
                                            (try simp only [List.setIfInBounds_toArray, List.set_cons_zero, List.set_cons_succ])
                                            refine anyH_at #[true, true, true, true, true, true, true, true, true, true, true, false] (by kernel_rfl) ?_
                                            refine wpAnyH_take (i := 11) (oi := { dst := some 6, op := _, type := _, pos := _, after := _, guard := _ }) (v := ?vv11r11) rfl (by kernel_rfl) (by kernel_rfl) (by kernel_rfl) (fun _ _ _ h => h) (Or.inl ⟨by rfl, ?hy11r11⟩) (by assumption) ?rest11r11
                                            case hy11r11 => ((intro w hSw; (try dsimp only at hSw); go_simp) <;> with_reducible rfl)
                                            case rest11r11 =>
                                              (try simp only [Act.put, List.setIfInBounds_toArray, List.set_cons_zero, List.set_cons_succ])
                                              refine anyH_at #[true, true, true, true, true, true, true, true, true, true, true, true] (by kernel_rfl) ?_
                                              refine wpAnyH_done (by kernel_rfl) ?_ _
                                              clear hHeld
                                              go_wp2_with fail
                                              have HB := hide (unhide HB).drew
                                              have HA := hide ((unhide HA).below ((Below.refl _ _).drew))
                                              refine wp_region_held_drew (S := fun w' => w'.cell? ⟨W.heap.size, 0, none⟩ = some (.bool n) ∧ w'.cell? ⟨W.heap.size, 1, none⟩ = some (.int .i64 K) ∧ w'.cell? ⟨W.heap.size, 2, none⟩ = some (.int .i64 X) ∧ w'.cell? ⟨W.heap.size, 3, none⟩ = some (.int .u64 S)) (by kernel_rfl) ?_ (fun hHeld => ?_)
                                              · (try dsimp only)
                                                exact unhide HA
                                              refine anyH_at #[false, false, false, false, false, false, false, false] (by kernel_rfl) ?_
                                              refine wpAnyH_take (i := 0) (oi := { dst := some 64, op := _, type := _, pos := _, after := _, guard := _ }) (v := ?vv0r17) rfl (by kernel_rfl) (by kernel_rfl) (by kernel_rfl) (fun _ _ _ h => h) (Or.inl ⟨by rfl, ?hy0r17⟩) (by assumption) ?rest0r17
                                              case hy0r17 => ((intro w hSw; (try dsimp only at hSw); go_simp) <;> with_reducible rfl)
                                              case rest0r17 =>
                                                (try simp only [Act.put, List.setIfInBounds_toArray, List.set_cons_zero, List.set_cons_succ])
                                                refine anyH_at #[true, false, false, false, false, false, false, false] (by kernel_rfl) ?_
                                                refine wpAnyH_take (i := 1) (oi := { dst := some 65, op := _, type := _, pos := _, after := _, guard := _ }) (v := ?vv1r17) rfl (by kernel_rfl) (by kernel_rfl) (by kernel_rfl) (fun _ _ _ h => h) (Or.inl ⟨by rfl, ?hy1r17⟩) (by assumption) ?rest1r17
                                                case hy1r17 => ((intro w hSw; (try dsimp only at hSw); go_simp) <;> with_reducible rfl)
                                                case rest1r17 =>
                                                  (try simp only [Act.put, List.setIfInBounds_toArray, List.set_cons_zero, List.set_cons_succ])
                                                  refine anyH_at #[true, true, false, false, false, false, false, false] (by kernel_rfl) ?_
                                                  refine wpAnyH_take (i := 2) (oi := { dst := some 66, op := _, type := _, pos := _, after := _, guard := _ }) (v := ?vv2r17) rfl (by kernel_rfl) (by kernel_rfl) (by kernel_rfl) (fun _ _ _ h => h) (Or.inl ⟨by rfl, ?hy2r17⟩) (by assumption) ?rest2r17
                                                  case hy2r17 => ((intro w hSw; (try dsimp only at hSw); go_simp) <;> with_reducible rfl)
                                                  case rest2r17 =>
                                                    (try simp only [Act.put, List.setIfInBounds_toArray, List.set_cons_zero, List.set_cons_succ])
                                                    refine anyH_at #[true, true, true, false, false, false, false, false] (by kernel_rfl) ?_
                                                    refine wpAnyH_take (i := 4) (oi := { dst := some 68, op := _, type := _, pos := _, after := _, guard := _ }) (v := ?vv4r17) rfl (by kernel_rfl) (by kernel_rfl) (by kernel_rfl) (fun _ _ _ h => h) (Or.inl ⟨by rfl, ?hy4r17⟩) (by assumption) ?rest4r17
                                                    case hy4r17 => ((intro w hSw; (try dsimp only at hSw); go_simp) <;> with_reducible rfl)
                                                    case rest4r17 =>
                                                      (try simp only [Act.put, List.setIfInBounds_toArray, List.set_cons_zero, List.set_cons_succ])
                                                      refine anyH_at #[true, true, true, false, true, false, false, false] (by kernel_rfl) ?_
                                                      refine wpAnyH_ready (rs := [3]) (by kernel_rfl) (by simp) ?_
                                                      refine AllReadyH.cons (o := { dst := some 67, op := _, type := _, pos := _, after := _, guard := _ }) rfl (fun Kk hKk => ?_) AllReadyH.nil
                                                      go_simp
                                                      refine (unhide HO _).mono ?_
                                                      rintro _ wn ⟨rfl, hbl⟩
                                                      have HB := hide (bthen (unhide HB) hbl)
                                                      have HA := hide ((unhide HA).below hbl)
                                                      clear hbl
                                                      (try go_wp2_with fail)
                                                      refine hKk.out _ _ ?_ (fun hHeld => ?_)
                                                      · (try dsimp only)
                                                        exact unhide HA
                                                      clear hKk Kk
                                                      (try simp only [List.setIfInBounds_toArray, List.set_cons_zero, List.set_cons_succ])
                                                      refine anyH_at #[true, true, true, true, true, false, false, false] (by kernel_rfl) ?_
                                                      refine wpAnyH_take (i := 5) (oi := { dst := some 69, op := _, type := _, pos := _, after := _, guard := _ }) (v := ?vv5r17) rfl (by kernel_rfl) (by kernel_rfl) (by kernel_rfl) (fun _ _ _ h => h) (Or.inl ⟨by rfl, ?hy5r17⟩) (by assumption) ?rest5r17
                                                      case hy5r17 => ((intro w hSw; (try dsimp only at hSw); go_simp) <;> with_reducible rfl)
                                                      case rest5r17 =>
                                                        (try simp only [Act.put, List.setIfInBounds_toArray, List.set_cons_zero, List.set_cons_succ])
                                                        refine anyH_at #[true, true, true, true, true, true, false, false] (by kernel_rfl) ?_
                                                        refine wpAnyH_take (i := 6) (oi := { dst := some 4, op := _, type := _, pos := _, after := _, guard := _ }) (v := ?vv6r17) rfl (by kernel_rfl) (by kernel_rfl) (by kernel_rfl) (fun _ _ _ h => h) (Or.inl ⟨by rfl, ?hy6r17⟩) (by assumption) ?rest6r17
                                                        case hy6r17 => ((intro w hSw; (try dsimp only at hSw); go_simp) <;> with_reducible rfl)
                                                        case rest6r17 =>
                                                          (try simp only [Act.put, List.setIfInBounds_toArray, List.set_cons_zero, List.set_cons_succ])
                                                          refine anyH_at #[true, true, true, true, true, true, true, false] (by kernel_rfl) ?_
                                                          refine wpAnyH_take (i := 7) (oi := { dst := some 5, op := _, type := _, pos := _, after := _, guard := _ }) (v := ?vv7r17) rfl (by kernel_rfl) (by kernel_rfl) (by kernel_rfl) (fun _ _ _ h => h) (Or.inl ⟨by rfl, ?hy7r17⟩) (by assumption) ?rest7r17
                                                          case hy7r17 => ((intro w hSw; (try dsimp only at hSw); go_simp) <;> with_reducible rfl)
                                                          case rest7r17 =>
                                                            (try simp only [Act.put, List.setIfInBounds_toArray, List.set_cons_zero, List.set_cons_succ])
                                                            refine anyH_at #[true, true, true, true, true, true, true, true] (by kernel_rfl) ?_
                                                            refine wpAnyH_done (by kernel_rfl) ?_ _
                                                            clear hHeld
                                                            go_wp2_with fail
                                                            go_ret2
                                                            exact ⟨rfl, unhide HB⟩

end Go.Proofs.Ytiphlnchfncdkaa
