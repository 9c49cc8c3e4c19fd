/- The statement RoundKeeps: its walk. -/
import Derived.Test.YtiklaalcmfkddaaWhole
namespace Go.Proofs.Ytiklaalcmfkddaa
open Go.RowKit
open Go.Proofs.Ytiklaalcmfkddaa.W

set_option maxRecDepth 100000 in
set_option maxHeartbeats 4000000 in
theorem keeps_no {w x h l X : Int} {n m : Bool} (W : World) (c1 : (w != 32) = true) (c2 : (w != 64) = true) :
    Calls Try.prog 5 #[.int .i64 w, .int .u64 x, .agg #[.bool n, .int .u64 h, .int .u64 l, .int .i64 X, .bool m]] W fun r W' => r = .returned (.bool true) ∧ Below W.heap.size W W' := by
  go_enter Try.func5, Try.ntmps5
  go_wp2_with fail
  refine (awake_any _).mono ?_
  rintro _ w1 ⟨rfl, hb⟩
  have HB := hide (bthen (below1 _ _) hb)
  clear hb
  go_wp2_with fail
  go_ret
  exact ⟨rfl, unhide HB⟩
set_option maxRecDepth 100000 in
set_option maxHeartbeats 4000000 in
theorem keeps_nan32 {w x h l X K E S A B I Z D : Int} {n m pn : Bool} (W : World) (g1 : (w != 32) = false) (HO : Hid (∀ W, Calls Try.prog 16 #[.int .i64 w, .int .u64 x] W fun r W' => r = .returned (.agg #[.bool pn, .int .i64 K, .int .i64 E, .int .u64 S]) ∧ Below W.heap.size W W'))
    (HPa : Hid (∀ W, Calls Try.prog 8 #[.int .i64 w, .bool false, .agg #[.int .u64 h, .int .u64 l], .int .i64 X, .bool false] W fun r W' => r = .returned (.int .u64 A) ∧ Below W.heap.size W W')) (HPb : Hid (∀ W, Calls Try.prog 8 #[.int .i64 w, .bool false, .agg #[.int .u64 h, .int .u64 l], .int .i64 X, .bool true] W fun r W' => r = .returned (.int .u64 B) ∧ Below W.heap.size W W'))
    (HI : Hid (∀ W, Calls Try.prog 20 #[.int .i64 w, .bool false] W fun r W' => r = .returned (.int .u64 I) ∧ Below W.heap.size W W')) (HD : Hid (∀ W, Calls Try.prog 8 #[.int .i64 w, .bool true, .agg #[.int .u64 h, .int .u64 l], .int .i64 X, .bool true] W fun r W' => r = .returned (.int .u64 D) ∧ Below W.heap.size W W')) (HZ : Hid (∀ W, Calls Try.prog 21 #[.int .i64 w, .bool true] W fun r W' => r = .returned (.int .u64 Z) ∧ Below W.heap.size W W'))
    (kab : A ≤ B) (kbi : B ≤ I) (ko : bits .or .u64 B Z = D) (k3 : (K != 3) = false) (k1 : (K == 1) = false) :
    Calls Try.prog 5 #[.int .i64 w, .int .u64 x, .agg #[.bool n, .int .u64 h, .int .u64 l, .int .i64 X, .bool m]] W fun r W' => r = .returned (.bool true) ∧ Below W.heap.size W W' := by
  go_enter Try.func5, Try.ntmps5
  go_wp2_with fail
  refine (awake_any _).mono ?_
  rintro _ w1 ⟨rfl, hb⟩
  have HA := hide ((at5_new W (.bool n) (.int .u64 h) (.int .u64 l) (.int .i64 X) (.bool m) 26).below hb)
  have HB := hide (bthen (below1 _ _) hb)
  clear hb
  go_wp2_with fail
  refine (unhide HO _).mono ?_
  rintro _ w2 ⟨rfl, hbl⟩
  have HA := hide (((unhide HA).below hbl).below (below1 _ (.cells #[.bool pn, .int .i64 K, .int .i64 E, .int .u64 S] 33)))
  have HP := hide (at4_new w2 (.bool pn) (.int .i64 K) (.int .i64 E) (.int .u64 S) 33)
  have HB := hide (balloc (bthen (unhide HB) hbl) (.cells #[.bool pn, .int .i64 K, .int .i64 E, .int .u64 S] 33))
  clear hbl
  go_wp2_with fail
  have HB := hide (unhide HB).drew
  have HA := hide ((unhide HA).below ((Below.refl _ _).drew))
  have HP := hide ((unhide HP).below ((Below.refl _ _).drew))
  refine wp_region_held_drew (S := fun w' => (w'.cell? ⟨W.heap.size, 0, none⟩ = some (.bool n) ∧ w'.cell? ⟨W.heap.size, 1, none⟩ = some (.int .u64 h) ∧ w'.cell? ⟨W.heap.size, 2, none⟩ = some (.int .u64 l) ∧ w'.cell? ⟨W.heap.size, 3, none⟩ = some (.int .i64 X) ∧ w'.cell? ⟨W.heap.size, 4, none⟩ = some (.bool m)) ∧ (w'.cell? ⟨w2.heap.size, 0, none⟩ = some (.bool pn) ∧ w'.cell? ⟨w2.heap.size, 1, none⟩ = some (.int .i64 K) ∧ w'.cell? ⟨w2.heap.size, 2, none⟩ = some (.int .i64 E) ∧ w'.cell? ⟨w2.heap.size, 3, none⟩ = some (.int .u64 S))) (by kernel_rfl) ?_ (fun hHeld => ?_)
  · (try dsimp only)
    exact ⟨unhide HA, unhide HP⟩
  refine anyH_at #[false, false, false, false, false, false, false, false, false, false, false, false, false, false, false, false, false, false, false, false] (by kernel_rfl) ?_
  refine wpAnyH_take (i := 0) (oi := { dst := some 33, op := _, type := _, pos := _, after := _, guard := _ }) (v := ?vv0r8) rfl (by kernel_rfl) (by kernel_rfl) (by kernel_rfl) (fun _ _ _ h => h) (Or.inl ⟨by rfl, ?hy0r8⟩) (by assumption) ?rest0r8
  case hy0r8 => ((intro w hSw; (try dsimp only at hSw); go_simp) <;> with_reducible rfl)
  case rest0r8 =>
    (try simp only [Act.put, List.setIfInBounds_toArray, List.set_cons_zero, List.set_cons_succ])
    refine anyH_at #[true, false, false, false, false, false, false, false, false, false, false, false, false, false, false, false, false, false, false, false] (by kernel_rfl) ?_
    refine wpAnyH_take (i := 1) (oi := { dst := some 34, op := _, type := _, pos := _, after := _, guard := _ }) (v := ?vv1r8) rfl (by kernel_rfl) (by kernel_rfl) (by kernel_rfl) (fun _ _ _ h => h) (Or.inl ⟨by rfl, ?hy1r8⟩) (by assumption) ?rest1r8
    case hy1r8 => ((intro w hSw; (try dsimp only at hSw); go_simp) <;> with_reducible rfl)
    case rest1r8 =>
      (try simp only [Act.put, List.setIfInBounds_toArray, List.set_cons_zero, List.set_cons_succ])
      refine anyH_at #[true, true, false, false, false, false, false, false, false, false, false, false, false, false, false, false, false, false, false, false] (by kernel_rfl) ?_
      refine wpAnyH_take (i := 2) (oi := { dst := some 35, op := _, type := _, pos := _, after := _, guard := _ }) (v := ?vv2r8) rfl (by kernel_rfl) (by kernel_rfl) (by kernel_rfl) (fun _ _ _ h => h) (Or.inl ⟨by rfl, ?hy2r8⟩) (by assumption) ?rest2r8
      case hy2r8 => ((intro w hSw; (try dsimp only at hSw); go_simp) <;> with_reducible rfl)
      case rest2r8 =>
        (try simp only [Act.put, List.setIfInBounds_toArray, List.set_cons_zero, List.set_cons_succ])
        refine anyH_at #[true, true, true, false, false, false, false, false, false, false, false, false, false, false, false, false, false, false, false, false] (by kernel_rfl) ?_
        refine wpAnyH_take (i := 3) (oi := { dst := some 36, op := _, type := _, pos := _, after := _, guard := _ }) (v := ?vv3r8) rfl (by kernel_rfl) (by kernel_rfl) (by kernel_rfl) (fun _ _ _ h => h) (Or.inl ⟨by rfl, ?hy3r8⟩) (by assumption) ?rest3r8
        case hy3r8 => ((intro w hSw; (try dsimp only at hSw); go_simp) <;> with_reducible rfl)
        case rest3r8 =>
          (try simp only [Act.put, List.setIfInBounds_toArray, List.set_cons_zero, List.set_cons_succ])
          refine anyH_at #[true, true, true, true, false, false, false, false, false, false, false, false, false, false, false, false, false, false, false, false] (by kernel_rfl) ?_
          refine wpAnyH_take (i := 4) (oi := { dst := some 37, op := _, type := _, pos := _, after := _, guard := _ }) (v := undef) rfl (by kernel_rfl) (by kernel_rfl) (by kernel_rfl) (fun _ _ _ h => h) (Or.inr ⟨by rfl, rfl⟩) (by assumption) ?_
          (try simp only [Act.put, List.setIfInBounds_toArray, List.set_cons_zero, List.set_cons_succ])
          refine anyH_at #[true, true, true, true, true, false, false, false, false, false, false, false, false, false, false, false, false, false, false, false] (by kernel_rfl) ?_
          refine wpAnyH_take (i := 5) (oi := { dst := some 38, op := _, type := _, pos := _, after := _, guard := _ }) (v := undef) rfl (by kernel_rfl) (by kernel_rfl) (by kernel_rfl) (fun _ _ _ h => h) (Or.inr ⟨by rfl, rfl⟩) (by assumption) ?_
          (try simp only [Act.put, List.setIfInBounds_toArray, List.set_cons_zero, List.set_cons_succ])
          refine anyH_at #[true, true, true, true, true, true, false, false, false, false, false, false, false, false, false, false, false, false, false, false] (by kernel_rfl) ?_
          refine wpAnyH_take (i := 6) (oi := { dst := some 39, op := _, type := _, pos := _, after := _, guard := _ }) (v := undef) rfl (by kernel_rfl) (by kernel_rfl) (by kernel_rfl) (fun _ _ _ h => h) (Or.inr ⟨by rfl, rfl⟩) (by assumption) ?_
          (try simp only [Act.put, List.setIfInBounds_toArray, List.set_cons_zero, List.set_cons_succ])
          refine anyH_at #[true, true, true, true, true, true, true, false, false, false, false, false, false, false, false, false, false, false, false, false] (by kernel_rfl) ?_
          refine wpAnyH_take (i := 7) (oi := { dst := some 40, op := _, type := _, pos := _, after := _, guard := _ }) (v := undef) rfl (by kernel_rfl) (by kernel_rfl) (by kernel_rfl) (fun _ _ _ h => h) (Or.inr ⟨by rfl, rfl⟩) (by assumption) ?_
          (try simp only [Act.put, List.setIfInBounds_toArray, List.set_cons_zero, List.set_cons_succ])
          refine anyH_at #[true, true, true, true, true, true, true, true, false, false, false, false, false, false, false, false, false, false, false, false] (by kernel_rfl) ?_
          refine wpAnyH_take (i := 8) (oi := { dst := some 41, op := _, type := _, pos := _, after := _, guard := _ }) (v := undef) rfl (by kernel_rfl) (by kernel_rfl) (by kernel_rfl) (fun _ _ _ h => h) (Or.inr ⟨by rfl, rfl⟩) (by assumption) ?_
          (try simp only [Act.put, List.setIfInBounds_toArray, List.set_cons_zero, List.set_cons_succ])
          refine anyH_at #[true, true, true, true, true, true, true, true, true, false, false, false, false, false, false, false, false, false, false, false] (by kernel_rfl) ?_
          refine wpAnyH_take (i := 11) (oi := { dst := some 44, op := _, type := _, pos := _, after := _, guard := _ }) (v := undef) rfl (by kernel_rfl) (by kernel_rfl) (by kernel_rfl) (fun _ _ _ h => h) (Or.inr ⟨by rfl, rfl⟩) (by assumption) ?_
          (try simp only [Act.put, List.setIfInBounds_toArray, List.set_cons_zero, List.set_cons_succ])
          refine anyH_at #[true, true, true, true, true, true, true, true, true, false, false, true, false, false, false, false, false, false, false, false] (by kernel_rfl) ?_
          refine wpAnyH_take (i := 12) (oi := { dst := some 45, op := _, type := _, pos := _, after := _, guard := _ }) (v := undef) rfl (by kernel_rfl) (by kernel_rfl) (by kernel_rfl) (fun _ _ _ h => h) (Or.inr ⟨by rfl, rfl⟩) (by assumption) ?_
          (try simp only [Act.put, List.setIfInBounds_toArray, List.set_cons_zero, List.set_cons_succ])
          refine anyH_at #[true, true, true, true, true, true, true, true, true, false, false, true, true, false, false, false, false, false, false, false] (by kernel_rfl) ?_
          refine wpAnyH_take (i := 13) (oi := { dst := some 46, op := _, type := _, pos := _, after := _, guard := _ }) (v := undef) rfl (by kernel_rfl) (by kernel_rfl) (by kernel_rfl) (fun _ _ _ h => h) (Or.inr ⟨by rfl, rfl⟩) (by assumption) ?_
          (try simp only [Act.put, List.setIfInBounds_toArray, List.set_cons_zero, List.set_cons_succ])
          refine anyH_at #[true, true, true, true, true, true, true, true, true, false, false, true, true, true, false, false, false, false, false, false] (by kernel_rfl) ?_
          refine wpAnyH_take (i := 15) (oi := { dst := some 48, op := _, type := _, pos := _, after := _, guard := _ }) (v := undef) rfl (by kernel_rfl) (by kernel_rfl) (by kernel_rfl) (fun _ _ _ h => h) (Or.inr ⟨by rfl, rfl⟩) (by assumption) ?_
          (try simp only [Act.put, List.setIfInBounds_toArray, List.set_cons_zero, List.set_cons_succ])
          refine anyH_at #[true, true, true, true, true, true, true, true, true, false, false, true, true, true, false, true, false, false, false, false] (by kernel_rfl) ?_
          refine wpAnyH_take (i := 16) (oi := { dst := some 49, op := _, type := _, pos := _, after := _, guard := _ }) (v := undef) rfl (by kernel_rfl) (by kernel_rfl) (by kernel_rfl) (fun _ _ _ h => h) (Or.inr ⟨by rfl, rfl⟩) (by assumption) ?_
          (try simp only [Act.put, List.setIfInBounds_toArray, List.set_cons_zero, List.set_cons_succ])
          refine anyH_at #[true, true, true, true, true, true, true, true, true, false, false, true, true, true, false, true, true, false, false, false] (by kernel_rfl) ?_
          refine wpAnyH_ready (rs := [9]) (by kernel_rfl) (by simp) ?_
          refine AllReadyH.cons (o := { dst := some 42, op := _, type := _, pos := _, after := _, guard := _ }) rfl (fun Kk hKk => ?_) AllReadyH.nil
          go_simp
          refine hKk.out _ _ ?_ (fun hHeld => ?_)
          · (try dsimp only)
            exact hHeld
          clear hKk Kk
          (try simp only [List.setIfInBounds_toArray, List.set_cons_zero, List.set_cons_succ])
          refine anyH_at #[true, true, true, true, true, true, true, true, true, true, false, true, true, true, false, true, true, false, false, false] (by kernel_rfl) ?_
          refine wpAnyH_ready (rs := [10]) (by kernel_rfl) (by simp) ?_
          refine AllReadyH.cons (o := { dst := some 43, op := _, type := _, pos := _, after := _, guard := _ }) rfl (fun Kk hKk => ?_) AllReadyH.nil
          go_simp
          refine hKk.out _ _ ?_ (fun hHeld => ?_)
          · (try dsimp only)
            exact hHeld
          clear hKk Kk
          (try simp only [List.setIfInBounds_toArray, List.set_cons_zero, List.set_cons_succ])
          refine anyH_at #[true, true, true, true, true, true, true, true, true, true, true, true, true, true, false, true, true, false, false, false] (by kernel_rfl) ?_
          refine wpAnyH_ready (rs := [14]) (by kernel_rfl) (by simp) ?_
          refine AllReadyH.cons (o := { dst := some 47, op := _, type := _, pos := _, after := _, guard := _ }) rfl (fun Kk hKk => ?_) AllReadyH.nil
          go_simp
          refine hKk.out _ _ ?_ (fun hHeld => ?_)
          · (try dsimp only)
            exact hHeld
          clear hKk Kk
          (try simp only [List.setIfInBounds_toArray, List.set_cons_zero, List.set_cons_succ])
          refine anyH_at #[true, true, true, true, true, true, true, true, true, true, true, true, true, true, true, true, true, false, false, false] (by kernel_rfl) ?_
          refine wpAnyH_ready (rs := [17]) (by kernel_rfl) (by simp) ?_
          refine AllReadyH.cons (o := { dst := some 50, op := _, type := _, pos := _, after := _, guard := _ }) rfl (fun Kk hKk => ?_) AllReadyH.nil
          go_simp
          refine hKk.out _ _ ?_ (fun hHeld => ?_)
          · (try dsimp only)
            exact hHeld
          clear hKk Kk
          (try simp only [List.setIfInBounds_toArray, List.set_cons_zero, List.set_cons_succ])
          refine anyH_at #[true, true, true, true, true, true, true, true, true, true, true, true, true, true, true, true, true, true, false, false] (by kernel_rfl) ?_
          refine wpAnyH_take (i := 18) (oi := { dst := some 51, op := _, type := _, pos := _, after := _, guard := _ }) (v := undef) rfl (by kernel_rfl) (by kernel_rfl) (by kernel_rfl) (fun _ _ _ h => h) (Or.inr ⟨by rfl, rfl⟩) (by assumption) ?_
          (try simp only [Act.put, List.setIfInBounds_toArray, List.set_cons_zero, List.set_cons_succ])
          refine anyH_at #[true, true, true, true, true, true, true, true, true, true, true, true, true, true, true, true, true, true, true, false] (by kernel_rfl) ?_
          refine wpAnyH_take (i := 19) (oi := { dst := some 52, op := _, type := _, pos := _, after := _, guard := _ }) (v := ?vv19r8) rfl (by kernel_rfl) (by kernel_rfl) (by kernel_rfl) (fun _ _ _ h => h) (Or.inl ⟨by rfl, ?hy19r8⟩) (by assumption) ?rest19r8
          case hy19r8 => ((intro w hSw; (try dsimp only at hSw); go_simp) <;> with_reducible rfl)
          case rest19r8 =>
            (try simp only [Act.put, List.setIfInBounds_toArray, List.set_cons_zero, List.set_cons_succ])
            refine anyH_at #[true, true, true, true, true, true, true, true, true, true, true, true, true, true, true, true, true, true, true, true] (by kernel_rfl) ?_
            refine wpAnyH_done (by kernel_rfl) ?_ _
            clear hHeld
            go_wp2_with fail
            have HB := hide (unhide HB).drew
            have HA := hide ((unhide HA).below ((Below.refl _ _).drew))
            have HP := hide ((unhide HP).below ((Below.refl _ _).drew))
            refine wp_region_held_drew (S := fun w' => (w'.cell? ⟨W.heap.size, 0, none⟩ = some (.bool n) ∧ w'.cell? ⟨W.heap.size, 1, none⟩ = some (.int .u64 h) ∧ w'.cell? ⟨W.heap.size, 2, none⟩ = some (.int .u64 l) ∧ w'.cell? ⟨W.heap.size, 3, none⟩ = some (.int .i64 X) ∧ w'.cell? ⟨W.heap.size, 4, none⟩ = some (.bool m)) ∧ (w'.cell? ⟨w2.heap.size, 0, none⟩ = some (.bool pn) ∧ w'.cell? ⟨w2.heap.size, 1, none⟩ = some (.int .i64 K) ∧ w'.cell? ⟨w2.heap.size, 2, none⟩ = some (.int .i64 E) ∧ w'.cell? ⟨w2.heap.size, 3, none⟩ = some (.int .u64 S))) (by kernel_rfl) ?_ (fun hHeld => ?_)
            · (try dsimp only)
              exact ⟨unhide HA, unhide HP⟩
            refine anyH_at #[false, false, false, false, false, false, false, false, false, false, false, false, false, false] (by kernel_rfl) ?_
            refine wpAnyH_take (i := 0) (oi := { dst := some 53, op := _, type := _, pos := _, after := _, guard := _ }) (v := ?vv0r10) rfl (by kernel_rfl) (by kernel_rfl) (by kernel_rfl) (fun _ _ _ h => h) (Or.inl ⟨by rfl, ?hy0r10⟩) (by assumption) ?rest0r10
            case hy0r10 => ((intro w hSw; (try dsimp only at hSw); go_simp) <;> with_reducible rfl)
            case rest0r10 =>
              (try simp only [Act.put, List.setIfInBounds_toArray, List.set_cons_zero, List.set_cons_succ])
              refine anyH_at #[true, false, false, false, false, false, false, false, false, false, false, false, false, false] (by kernel_rfl) ?_
              refine wpAnyH_take (i := 1) (oi := { dst := some 54, op := _, type := _, pos := _, after := _, guard := _ }) (v := ?vv1r10) rfl (by kernel_rfl) (by kernel_rfl) (by kernel_rfl) (fun _ _ _ h => h) (Or.inl ⟨by rfl, ?hy1r10⟩) (by assumption) ?rest1r10
              case hy1r10 => ((intro w hSw; (try dsimp only at hSw); go_simp) <;> with_reducible rfl)
              case rest1r10 =>
                (try simp only [Act.put, List.setIfInBounds_toArray, List.set_cons_zero, List.set_cons_succ])
                refine anyH_at #[true, true, false, false, false, false, false, false, false, false, false, false, false, false] (by kernel_rfl) ?_
                refine wpAnyH_take (i := 2) (oi := { dst := some 55, op := _, type := _, pos := _, after := _, guard := _ }) (v := ?vv2r10) rfl (by kernel_rfl) (by kernel_rfl) (by kernel_rfl) (fun _ _ _ h => h) (Or.inl ⟨by rfl, ?hy2r10⟩) (by assumption) ?rest2r10
                case hy2r10 => ((intro w hSw; (try dsimp only at hSw); go_simp) <;> with_reducible rfl)
                case rest2r10 =>
                  (try simp only [Act.put, List.setIfInBounds_toArray, List.set_cons_zero, List.set_cons_succ])
                  refine anyH_at #[true, true, true, false, false, false, false, false, false, false, false, false, false, false] (by kernel_rfl) ?_
                  refine wpAnyH_take (i := 3) (oi := { dst := some 56, op := _, type := _, pos := _, after := _, guard := _ }) (v := ?vv3r10) rfl (by kernel_rfl) (by kernel_rfl) (by kernel_rfl) (fun _ _ _ h => h) (Or.inl ⟨by rfl, ?hy3r10⟩) (by assumption) ?rest3r10
                  case hy3r10 => ((intro w hSw; (try dsimp only at hSw); go_simp) <;> with_reducible rfl)
                  case rest3r10 =>
                    (try simp only [Act.put, List.setIfInBounds_toArray, List.set_cons_zero, List.set_cons_succ])
                    refine anyH_at #[true, true, true, true, false, false, false, false, false, false, false, false, false, false] (by kernel_rfl) ?_
                    refine wpAnyH_take (i := 4) (oi := { dst := some 57, op := _, type := _, pos := _, after := _, guard := _ }) (v := ?vv4r10) rfl (by kernel_rfl) (by kernel_rfl) (by kernel_rfl) (fun _ _ _ h => h) (Or.inl ⟨by rfl, ?hy4r10⟩) (by assumption) ?rest4r10
                    case hy4r10 => ((intro w hSw; (try dsimp only at hSw); go_simp) <;> with_reducible rfl)
                    case rest4r10 =>
                      (try simp only [Act.put, List.setIfInBounds_toArray, List.set_cons_zero, List.set_cons_succ])
                      refine anyH_at #[true, true, true, true, true, false, false, false, false, false, false, false, false, false] (by kernel_rfl) ?_
                      refine wpAnyH_take (i := 6) (oi := { dst := some 59, op := _, type := _, pos := _, after := _, guard := _ }) (v := ?vv6r10) rfl (by kernel_rfl) (by kernel_rfl) (by kernel_rfl) (fun _ _ _ h => h) (Or.inl ⟨by rfl, ?hy6r10⟩) (by assumption) ?rest6r10
                      case hy6r10 => ((intro w hSw; (try dsimp only at hSw); go_simp) <;> with_reducible rfl)
                      case rest6r10 =>
                        (try simp only [Act.put, List.setIfInBounds_toArray, List.set_cons_zero, List.set_cons_succ])
                        refine anyH_at #[true, true, true, true, true, false, true, false, false, false, false, false, false, false] (by kernel_rfl) ?_
                        refine wpAnyH_take (i := 7) (oi := { dst := some 60, op := _, type := _, pos := _, after := _, guard := _ }) (v := ?vv7r10) rfl (by kernel_rfl) (by kernel_rfl) (by kernel_rfl) (fun _ _ _ h => h) (Or.inl ⟨by rfl, ?hy7r10⟩) (by assumption) ?rest7r10
                        case hy7r10 => ((intro w hSw; (try dsimp only at hSw); go_simp) <;> with_reducible rfl)
                        case rest7r10 =>
                          (try simp only [Act.put, List.setIfInBounds_toArray, List.set_cons_zero, List.set_cons_succ])
                          refine anyH_at #[true, true, true, true, true, false, true, true, false, false, false, false, false, false] (by kernel_rfl) ?_
                          refine wpAnyH_take (i := 8) (oi := { dst := some 61, op := _, type := _, pos := _, after := _, guard := _ }) (v := ?vv8r10) rfl (by kernel_rfl) (by kernel_rfl) (by kernel_rfl) (fun _ _ _ h => h) (Or.inl ⟨by rfl, ?hy8r10⟩) (by assumption) ?rest8r10
                          case hy8r10 => ((intro w hSw; (try dsimp only at hSw); go_simp) <;> with_reducible rfl)
                          case rest8r10 =>
                            (try simp only [Act.put, List.setIfInBounds_toArray, List.set_cons_zero, List.set_cons_succ])
                            refine anyH_at #[true, true, true, true, true, false, true, true, true, false, false, false, false, false] (by kernel_rfl) ?_
                            refine wpAnyH_take (i := 9) (oi := { dst := some 62, op := _, type := _, pos := _, after := _, guard := _ }) (v := ?vv9r10) rfl (by kernel_rfl) (by kernel_rfl) (by kernel_rfl) (fun _ _ _ h => h) (Or.inl ⟨by rfl, ?hy9r10⟩) (by assumption) ?rest9r10
                            case hy9r10 => ((intro w hSw; (try dsimp only at hSw); go_simp) <;> with_reducible rfl)
                            case rest9r10 =>
                              (try simp only [Act.put, List.setIfInBounds_toArray, List.set_cons_zero, List.set_cons_succ])
                              refine anyH_at #[true, true, true, true, true, false, true, true, true, true, false, false, false, false] (by kernel_rfl) ?_
                              refine wpAnyH_take (i := 10) (oi := { dst := some 63, op := _, type := _, pos := _, after := _, guard := _ }) (v := ?vv10r10) rfl (by kernel_rfl) (by kernel_rfl) (by kernel_rfl) (fun _ _ _ h => h) (Or.inl ⟨by rfl, ?hy10r10⟩) (by assumption) ?rest10r10
                              case hy10r10 => ((intro w hSw; (try dsimp only at hSw); go_simp) <;> with_reducible rfl)
                              case rest10r10 =>
                                (try simp only [Act.put, List.setIfInBounds_toArray, List.set_cons_zero, List.set_cons_succ])
                                refine anyH_at #[true, true, true, true, true, false, true, true, true, true, true, false, false, false] (by kernel_rfl) ?_
                                refine wpAnyH_ready (rs := [5]) (by kernel_rfl) (by simp) ?_
                                refine AllReadyH.cons (o := { dst := some 58, op := _, type := _, pos := _, after := _, guard := _ }) rfl (fun Kk hKk => ?_) AllReadyH.nil
                                go_simp
                                refine (unhide HPa _).mono ?_
                                rintro _ w7 ⟨rfl, hbl⟩
                                have HB := hide (bthen (unhide HB) hbl)
                                have HA := hide ((unhide HA).below hbl)
                                have HP := hide ((unhide HP).below hbl)
                                clear hbl
                                (try go_wp2_with fail)
                                refine hKk.out _ _ ?_ (fun hHeld => ?_)
                                · (try dsimp only)
                                  exact ⟨unhide HA, unhide HP⟩
                                clear hKk Kk
                                (try simp only [List.setIfInBounds_toArray, List.set_cons_zero, List.set_cons_succ])
                                refine anyH_at #[true, true, true, true, true, true, true, true, true, true, true, false, false, false] (by kernel_rfl) ?_
                                refine wpAnyH_ready (rs := [11]) (by kernel_rfl) (by simp) ?_
                                refine AllReadyH.cons (o := { dst := some 64, op := _, type := _, pos := _, after := _, guard := _ }) rfl (fun Kk hKk => ?_) AllReadyH.nil
                                go_simp
                                refine (unhide HPb _).mono ?_
                                rintro _ w8 ⟨rfl, hbl⟩
                                have HB := hide (bthen (unhide HB) hbl)
                                have HA := hide ((unhide HA).below hbl)
                                have HP := hide ((unhide HP).below hbl)
                                clear hbl
                                (try go_wp2_with fail)
                                refine hKk.out _ _ ?_ (fun hHeld => ?_)
                                · (try dsimp only)
                                  exact ⟨unhide HA, unhide HP⟩
                                clear hKk Kk
                                (try simp only [List.setIfInBounds_toArray, List.set_cons_zero, List.set_cons_succ])
                                refine anyH_at #[true, true, true, true, true, true, true, true, true, true, true, true, false, false] (by kernel_rfl) ?_
                                refine wpAnyH_take (i := 12) (oi := { dst := some 8, op := _, type := _, pos := _, after := _, guard := _ }) (v := ?vv12r10) rfl (by kernel_rfl) (by kernel_rfl) (by kernel_rfl) (fun _ _ _ h => h) (Or.inl ⟨by rfl, ?hy12r10⟩) (by assumption) ?rest12r10
                                case hy12r10 => ((intro w hSw; (try dsimp only at hSw); go_simp) <;> with_reducible rfl)
                                case rest12r10 =>
                                  (try simp only [Act.put, List.setIfInBounds_toArray, List.set_cons_zero, List.set_cons_succ])
                                  refine anyH_at #[true, true, true, true, true, true, true, true, true, true, true, true, true, false] (by kernel_rfl) ?_
                                  refine wpAnyH_take (i := 13) (oi := { dst := some 9, op := _, type := _, pos := _, after := _, guard := _ }) (v := ?vv13r10) rfl (by kernel_rfl) (by kernel_rfl) (by kernel_rfl) (fun _ _ _ h => h) (Or.inl ⟨by rfl, ?hy13r10⟩) (by assumption) ?rest13r10
                                  case hy13r10 => ((intro w hSw; (try dsimp only at hSw); go_simp) <;> with_reducible rfl)
                                  case rest13r10 =>
                                    (try simp only [Act.put, List.setIfInBounds_toArray, List.set_cons_zero, List.set_cons_succ])
                                    refine anyH_at #[true, true, true, true, true, true, true, true, true, true, true, true, true, true] (by kernel_rfl) ?_
                                    refine wpAnyH_done (by kernel_rfl) ?_ _
                                    clear hHeld
                                    obtain ⟨a0, a1, a2, a3, a4⟩ := unhide HA
                                    go_wp2_with fail
                                    clear a0 a1 a2 a3 a4
                                    refine (unhide HI _).mono ?_
                                    rintro _ w9 ⟨rfl, hbl⟩
                                    have HB := hide (bthen (unhide HB) hbl)
                                    have HA := hide ((unhide HA).below hbl)
                                    have HP := hide ((unhide HP).below hbl)
                                    clear hbl
                                    obtain ⟨a0, a1, a2, a3, a4⟩ := unhide HA
                                    go_wp2_with fail
                                    clear a0 a1 a2 a3 a4
                                    refine (unhide HD _).mono ?_
                                    rintro _ w10 ⟨rfl, hbl⟩
                                    have HB := hide (bthen (unhide HB) hbl)
                                    have HA := hide ((unhide HA).below hbl)
                                    have HP := hide ((unhide HP).below hbl)
                                    clear hbl
                                    go_wp2_with fail
                                    refine (unhide HZ _).mono ?_
                                    rintro _ w11 ⟨rfl, hbl⟩
                                    have HB := hide (bthen (unhide HB) hbl)
                                    clear hbl
                                    go_wp2_with fail
                                    go_ret
                                    exact ⟨rfl, unhide HB⟩
set_option maxRecDepth 100000 in
set_option maxHeartbeats 4000000 in
theorem keeps_nan64 {w x h l X K E S A B I Z D : Int} {n m pn : Bool} (W : World) (g1 : (w != 32) = true) (g2 : (w != 64) = false) (HO : Hid (∀ W, Calls Try.prog 16 #[.int .i64 w, .int .u64 x] W fun r W' => r = .returned (.agg #[.bool pn, .int .i64 K, .int .i64 E, .int .u64 S]) ∧ Below W.heap.size W W'))
    (HPa : Hid (∀ W, Calls Try.prog 8 #[.int .i64 w, .bool false, .agg #[.int .u64 h, .int .u64 l], .int .i64 X, .bool false] W fun r W' => r = .returned (.int .u64 A) ∧ Below W.heap.size W W')) (HPb : Hid (∀ W, Calls Try.prog 8 #[.int .i64 w, .bool false, .agg #[.int .u64 h, .int .u64 l], .int .i64 X, .bool true] W fun r W' => r = .returned (.int .u64 B) ∧ Below W.heap.size W W'))
    (HI : Hid (∀ W, Calls Try.prog 20 #[.int .i64 w, .bool false] W fun r W' => r = .returned (.int .u64 I) ∧ Below W.heap.size W W')) (HD : Hid (∀ W, Calls Try.prog 8 #[.int .i64 w, .bool true, .agg #[.int .u64 h, .int .u64 l], .int .i64 X, .bool true] W fun r W' => r = .returned (.int .u64 D) ∧ Below W.heap.size W W')) (HZ : Hid (∀ W, Calls Try.prog 21 #[.int .i64 w, .bool true] W fun r W' => r = .returned (.int .u64 Z) ∧ Below W.heap.size W W'))
    (kab : A ≤ B) (kbi : B ≤ I) (ko : bits .or .u64 B Z = D) (k3 : (K != 3) = false) (k1 : (K == 1) = false) :
    Calls Try.prog 5 #[.int .i64 w, .int .u64 x, .agg #[.bool n, .int .u64 h, .int .u64 l, .int .i64 X, .bool m]] W fun r W' => r = .returned (.bool true) ∧ Below W.heap.size W W' := by
  go_enter Try.func5, Try.ntmps5
  go_wp2_with fail
  refine (awake_any _).mono ?_
  rintro _ w1 ⟨rfl, hb⟩
  have HA := hide ((at5_new W (.bool n) (.int .u64 h) (.int .u64 l) (.int .i64 X) (.bool m) 26).below hb)
  have HB := hide (bthen (below1 _ _) hb)
  clear hb
  go_wp2_with fail
  refine (unhide HO _).mono ?_
  rintro _ w2 ⟨rfl, hbl⟩
  have HA := hide (((unhide HA).below hbl).below (below1 _ (.cells #[.bool pn, .int .i64 K, .int .i64 E, .int .u64 S] 33)))
  have HP := hide (at4_new w2 (.bool pn) (.int .i64 K) (.int .i64 E) (.int .u64 S) 33)
  have HB := hide (balloc (bthen (unhide HB) hbl) (.cells #[.bool pn, .int .i64 K, .int .i64 E, .int .u64 S] 33))
  clear hbl
  go_wp2_with fail
  have HB := hide (unhide HB).drew
  have HA := hide ((unhide HA).below ((Below.refl _ _).drew))
  have HP := hide ((unhide HP).below ((Below.refl _ _).drew))
  refine wp_region_held_drew (S := fun w' => (w'.cell? ⟨W.heap.size, 0, none⟩ = some (.bool n) ∧ w'.cell? ⟨W.heap.size, 1, none⟩ = some (.int .u64 h) ∧ w'.cell? ⟨W.heap.size, 2, none⟩ = some (.int .u64 l) ∧ w'.cell? ⟨W.heap.size, 3, none⟩ = some (.int .i64 X) ∧ w'.cell? ⟨W.heap.size, 4, none⟩ = some (.bool m)) ∧ (w'.cell? ⟨w2.heap.size, 0, none⟩ = some (.bool pn) ∧ w'.cell? ⟨w2.heap.size, 1, none⟩ = some (.int .i64 K) ∧ w'.cell? ⟨w2.heap.size, 2, none⟩ = some (.int .i64 E) ∧ w'.cell? ⟨w2.heap.size, 3, none⟩ = some (.int .u64 S))) (by kernel_rfl) ?_ (fun hHeld => ?_)
  · (try dsimp only)
    exact ⟨unhide HA, unhide HP⟩
  refine anyH_at #[false, false, false, false, false, false, false, false, false, false, false, false, false, false, false, false, false, false, false, false] (by kernel_rfl) ?_
  refine wpAnyH_take (i := 0) (oi := { dst := some 33, op := _, type := _, pos := _, after := _, guard := _ }) (v := ?vv0r8) rfl (by kernel_rfl) (by kernel_rfl) (by kernel_rfl) (fun _ _ _ h => h) (Or.inl ⟨by rfl, ?hy0r8⟩) (by assumption) ?rest0r8
  case hy0r8 => ((intro w hSw; (try dsimp only at hSw); go_simp) <;> with_reducible rfl)
  case rest0r8 =>
    (try simp only [Act.put, List.setIfInBounds_toArray, List.set_cons_zero, List.set_cons_succ])
    refine anyH_at #[true, false, false, false, false, false, false, false, false, false, false, false, false, false, false, false, false, false, false, false] (by kernel_rfl) ?_
    refine wpAnyH_take (i := 1) (oi := { dst := some 34, op := _, type := _, pos := _, after := _, guard := _ }) (v := ?vv1r8) rfl (by kernel_rfl) (by kernel_rfl) (by kernel_rfl) (fun _ _ _ h => h) (Or.inl ⟨by rfl, ?hy1r8⟩) (by assumption) ?rest1r8
    case hy1r8 => ((intro w hSw; (try dsimp only at hSw); go_simp) <;> with_reducible rfl)
    case rest1r8 =>
      (try simp only [Act.put, List.setIfInBounds_toArray, List.set_cons_zero, List.set_cons_succ])
      refine anyH_at #[true, true, false, false, false, false, false, false, false, false, false, false, false, false, false, false, false, false, false, false] (by kernel_rfl) ?_
      refine wpAnyH_take (i := 2) (oi := { dst := some 35, op := _, type := _, pos := _, after := _, guard := _ }) (v := ?vv2r8) rfl (by kernel_rfl) (by kernel_rfl) (by kernel_rfl) (fun _ _ _ h => h) (Or.inl ⟨by rfl, ?hy2r8⟩) (by assumption) ?rest2r8
      case hy2r8 => ((intro w hSw; (try dsimp only at hSw); go_simp) <;> with_reducible rfl)
      case rest2r8 =>
        (try simp only [Act.put, List.setIfInBounds_toArray, List.set_cons_zero, List.set_cons_succ])
        refine anyH_at #[true, true, true, false, false, false, false, false, false, false, false, false, false, false, false, false, false, false, false, false] (by kernel_rfl) ?_
        refine wpAnyH_take (i := 3) (oi := { dst := some 36, op := _, type := _, pos := _, after := _, guard := _ }) (v := ?vv3r8) rfl (by kernel_rfl) (by kernel_rfl) (by kernel_rfl) (fun _ _ _ h => h) (Or.inl ⟨by rfl, ?hy3r8⟩) (by assumption) ?rest3r8
        case hy3r8 => ((intro w hSw; (try dsimp only at hSw); go_simp) <;> with_reducible rfl)
        case rest3r8 =>
          (try simp only [Act.put, List.setIfInBounds_toArray, List.set_cons_zero, List.set_cons_succ])
          refine anyH_at #[true, true, true, true, false, false, false, false, false, false, false, false, false, false, false, false, false, false, false, false] (by kernel_rfl) ?_
          refine wpAnyH_take (i := 4) (oi := { dst := some 37, op := _, type := _, pos := _, after := _, guard := _ }) (v := undef) rfl (by kernel_rfl) (by kernel_rfl) (by kernel_rfl) (fun _ _ _ h => h) (Or.inr ⟨by rfl, rfl⟩) (by assumption) ?_
          (try simp only [Act.put, List.setIfInBounds_toArray, List.set_cons_zero, List.set_cons_succ])
          refine anyH_at #[true, true, true, true, true, false, false, false, false, false, false, false, false, false, false, false, false, false, false, false] (by kernel_rfl) ?_
          refine wpAnyH_take (i := 5) (oi := { dst := some 38, op := _, type := _, pos := _, after := _, guard := _ }) (v := undef) rfl (by kernel_rfl) (by kernel_rfl) (by kernel_rfl) (fun _ _ _ h => h) (Or.inr ⟨by rfl, rfl⟩) (by assumption) ?_
          (try simp only [Act.put, List.setIfInBounds_toArray, List.set_cons_zero, List.set_cons_succ])
          refine anyH_at #[true, true, true, true, true, true, false, false, false, false, false, false, false, false, false, false, false, false, false, false] (by kernel_rfl) ?_
          refine wpAnyH_take (i := 6) (oi := { dst := some 39, op := _, type := _, pos := _, after := _, guard := _ }) (v := undef) rfl (by kernel_rfl) (by kernel_rfl) (by kernel_rfl) (fun _ _ _ h => h) (Or.inr ⟨by rfl, rfl⟩) (by assumption) ?_
          (try simp only [Act.put, List.setIfInBounds_toArray, List.set_cons_zero, List.set_cons_succ])
          refine anyH_at #[true, true, true, true, true, true, true, false, false, false, false, false, false, false, false, false, false, false, false, false] (by kernel_rfl) ?_
          refine wpAnyH_take (i := 7) (oi := { dst := some 40, op := _, type := _, pos := _, after := _, guard := _ }) (v := undef) rfl (by kernel_rfl) (by kernel_rfl) (by kernel_rfl) (fun _ _ _ h => h) (Or.inr ⟨by rfl, rfl⟩) (by assumption) ?_
          (try simp only [Act.put, List.setIfInBounds_toArray, List.set_cons_zero, List.set_cons_succ])
          refine anyH_at #[true, true, true, true, true, true, true, true, false, false, false, false, false, false, false, false, false, false, false, false] (by kernel_rfl) ?_
          refine wpAnyH_take (i := 8) (oi := { dst := some 41, op := _, type := _, pos := _, after := _, guard := _ }) (v := undef) rfl (by kernel_rfl) (by kernel_rfl) (by kernel_rfl) (fun _ _ _ h => h) (Or.inr ⟨by rfl, rfl⟩) (by assumption) ?_
          (try simp only [Act.put, List.setIfInBounds_toArray, List.set_cons_zero, List.set_cons_succ])
          refine anyH_at #[true, true, true, true, true, true, true, true, true, false, false, false, false, false, false, false, false, false, false, false] (by kernel_rfl) ?_
          refine wpAnyH_take (i := 11) (oi := { dst := some 44, op := _, type := _, pos := _, after := _, guard := _ }) (v := undef) rfl (by kernel_rfl) (by kernel_rfl) (by kernel_rfl) (fun _ _ _ h => h) (Or.inr ⟨by rfl, rfl⟩) (by assumption) ?_
          (try simp only [Act.put, List.setIfInBounds_toArray, List.set_cons_zero, List.set_cons_succ])
          refine anyH_at #[true, true, true, true, true, true, true, true, true, false, false, true, false, false, false, false, false, false, false, false] (by kernel_rfl) ?_
          refine wpAnyH_take (i := 12) (oi := { dst := some 45, op := _, type := _, pos := _, after := _, guard := _ }) (v := undef) rfl (by kernel_rfl) (by kernel_rfl) (by kernel_rfl) (fun _ _ _ h => h) (Or.inr ⟨by rfl, rfl⟩) (by assumption) ?_
          (try simp only [Act.put, List.setIfInBounds_toArray, List.set_cons_zero, List.set_cons_succ])
          refine anyH_at #[true, true, true, true, true, true, true, true, true, false, false, true, true, false, false, false, false, false, false, false] (by kernel_rfl) ?_
          refine wpAnyH_take (i := 13) (oi := { dst := some 46, op := _, type := _, pos := _, after := _, guard := _ }) (v := undef) rfl (by kernel_rfl) (by kernel_rfl) (by kernel_rfl) (fun _ _ _ h => h) (Or.inr ⟨by rfl, rfl⟩) (by assumption) ?_
          (try simp only [Act.put, List.setIfInBounds_toArray, List.set_cons_zero, List.set_cons_succ])
          refine anyH_at #[true, true, true, true, true, true, true, true, true, false, false, true, true, true, false, false, false, false, false, false] (by kernel_rfl) ?_
          refine wpAnyH_take (i := 15) (oi := { dst := some 48, op := _, type := _, pos := _, after := _, guard := _ }) (v := undef) rfl (by kernel_rfl) (by kernel_rfl) (by kernel_rfl) (fun _ _ _ h => h) (Or.inr ⟨by rfl, rfl⟩) (by assumption) ?_
          (try simp only [Act.put, List.setIfInBounds_toArray, List.set_cons_zero, List.set_cons_succ])
          refine anyH_at #[true, true, true, true, true, true, true, true, true, false, false, true, true, true, false, true, false, false, false, false] (by kernel_rfl) ?_
          refine wpAnyH_take (i := 16) (oi := { dst := some 49, op := _, type := _, pos := _, after := _, guard := _ }) (v := undef) rfl (by kernel_rfl) (by kernel_rfl) (by kernel_rfl) (fun _ _ _ h => h) (Or.inr ⟨by rfl, rfl⟩) (by assumption) ?_
          (try simp only [Act.put, List.setIfInBounds_toArray, List.set_cons_zero, List.set_cons_succ])
          refine anyH_at #[true, true, true, true, true, true, true, true, true, false, false, true, true, true, false, true, true, false, false, false] (by kernel_rfl) ?_
          refine wpAnyH_ready (rs := [9]) (by kernel_rfl) (by simp) ?_
          refine AllReadyH.cons (o := { dst := some 42, op := _, type := _, pos := _, after := _, guard := _ }) rfl (fun Kk hKk => ?_) AllReadyH.nil
          go_simp
          refine hKk.out _ _ ?_ (fun hHeld => ?_)
          · (try dsimp only)
            exact hHeld
          clear hKk Kk
          (try simp only [List.setIfInBounds_toArray, List.set_cons_zero, List.set_cons_succ])
          refine anyH_at #[true, true, true, true, true, true, true, true, true, true, false, true, true, true, false, true, true, false, false, false] (by kernel_rfl) ?_
          refine wpAnyH_ready (rs := [10]) (by kernel_rfl) (by simp) ?_
          refine AllReadyH.cons (o := { dst := some 43, op := _, type := _, pos := _, after := _, guard := _ }) rfl (fun Kk hKk => ?_) AllReadyH.nil
          go_simp
          refine hKk.out _ _ ?_ (fun hHeld => ?_)
          · (try dsimp only)
            exact hHeld
          clear hKk Kk
          (try simp only [List.setIfInBounds_toArray, List.set_cons_zero, List.set_cons_succ])
          refine anyH_at #[true, true, true, true, true, true, true, true, true, true, true, true, true, true, false, true, true, false, false, false] (by kernel_rfl) ?_
          refine wpAnyH_ready (rs := [14]) (by kernel_rfl) (by simp) ?_
          refine AllReadyH.cons (o := { dst := some 47, op := _, type := _, pos := _, after := _, guard := _ }) rfl (fun Kk hKk => ?_) AllReadyH.nil
          go_simp
          refine hKk.out _ _ ?_ (fun hHeld => ?_)
          · (try dsimp only)
            exact hHeld
          clear hKk Kk
          (try simp only [List.setIfInBounds_toArray, List.set_cons_zero, List.set_cons_succ])
          refine anyH_at #[true, true, true, true, true, true, true, true, true, true, true, true, true, true, true, true, true, false, false, false] (by kernel_rfl) ?_
          refine wpAnyH_ready (rs := [17]) (by kernel_rfl) (by simp) ?_
          refine AllReadyH.cons (o := { dst := some 50, op := _, type := _, pos := _, after := _, guard := _ }) rfl (fun Kk hKk => ?_) AllReadyH.nil
          go_simp
          refine hKk.out _ _ ?_ (fun hHeld => ?_)
          · (try dsimp only)
            exact hHeld
          clear hKk Kk
          (try simp only [List.setIfInBounds_toArray, List.set_cons_zero, List.set_cons_succ])
          refine anyH_at #[true, true, true, true, true, true, true, true, true, true, true, true, true, true, true, true, true, true, false, false] (by kernel_rfl) ?_
          refine wpAnyH_take (i := 18) (oi := { dst := some 51, op := _, type := _, pos := _, after := _, guard := _ }) (v := undef) rfl (by kernel_rfl) (by kernel_rfl) (by kernel_rfl) (fun _ _ _ h => h) (Or.inr ⟨by rfl, rfl⟩) (by assumption) ?_
          (try simp only [Act.put, List.setIfInBounds_toArray, List.set_cons_zero, List.set_cons_succ])
          refine anyH_at #[true, true, true, true, true, true, true, true, true, true, true, true, true, true, true, true, true, true, true, false] (by kernel_rfl) ?_
          refine wpAnyH_take (i := 19) (oi := { dst := some 52, op := _, type := _, pos := _, after := _, guard := _ }) (v := ?vv19r8) rfl (by kernel_rfl) (by kernel_rfl) (by kernel_rfl) (fun _ _ _ h => h) (Or.inl ⟨by rfl, ?hy19r8⟩) (by assumption) ?rest19r8
          case hy19r8 => ((intro w hSw; (try dsimp only at hSw); go_simp) <;> with_reducible rfl)
          case rest19r8 =>
            (try simp only [Act.put, List.setIfInBounds_toArray, List.set_cons_zero, List.set_cons_succ])
            refine anyH_at #[true, true, true, true, true, true, true, true, true, true, true, true, true, true, true, true, true, true, true, true] (by kernel_rfl) ?_
            refine wpAnyH_done (by kernel_rfl) ?_ _
            clear hHeld
            go_wp2_with fail
            have HB := hide (unhide HB).drew
            have HA := hide ((unhide HA).below ((Below.refl _ _).drew))
            have HP := hide ((unhide HP).below ((Below.refl _ _).drew))
            refine wp_region_held_drew (S := fun w' => (w'.cell? ⟨W.heap.size, 0, none⟩ = some (.bool n) ∧ w'.cell? ⟨W.heap.size, 1, none⟩ = some (.int .u64 h) ∧ w'.cell? ⟨W.heap.size, 2, none⟩ = some (.int .u64 l) ∧ w'.cell? ⟨W.heap.size, 3, none⟩ = some (.int .i64 X) ∧ w'.cell? ⟨W.heap.size, 4, none⟩ = some (.bool m)) ∧ (w'.cell? ⟨w2.heap.size, 0, none⟩ = some (.bool pn) ∧ w'.cell? ⟨w2.heap.size, 1, none⟩ = some (.int .i64 K) ∧ w'.cell? ⟨w2.heap.size, 2, none⟩ = some (.int .i64 E) ∧ w'.cell? ⟨w2.heap.size, 3, none⟩ = some (.int .u64 S))) (by kernel_rfl) ?_ (fun hHeld => ?_)
            · (try dsimp only)
              exact ⟨unhide HA, unhide HP⟩
            refine anyH_at #[false, false, false, false, false, false, false, false, false, false, false, false, false, false] (by kernel_rfl) ?_
            refine wpAnyH_take (i := 0) (oi := { dst := some 53, op := _, type := _, pos := _, after := _, guard := _ }) (v := ?vv0r10) rfl (by kernel_rfl) (by kernel_rfl) (by kernel_rfl) (fun _ _ _ h => h) (Or.inl ⟨by rfl, ?hy0r10⟩) (by assumption) ?rest0r10
            case hy0r10 => ((intro w hSw; (try dsimp only at hSw); go_simp) <;> with_reducible rfl)
            case rest0r10 =>
              (try simp only [Act.put, List.setIfInBounds_toArray, List.set_cons_zero, List.set_cons_succ])
              refine anyH_at #[true, false, false, false, false, false, false, false, false, false, false, false, false, false] (by kernel_rfl) ?_
              refine wpAnyH_take (i := 1) (oi := { dst := some 54, op := _, type := _, pos := _, after := _, guard := _ }) (v := ?vv1r10) rfl (by kernel_rfl) (by kernel_rfl) (by kernel_rfl) (fun _ _ _ h => h) (Or.inl ⟨by rfl, ?hy1r10⟩) (by assumption) ?rest1r10
              case hy1r10 => ((intro w hSw; (try dsimp only at hSw); go_simp) <;> with_reducible rfl)
              case rest1r10 =>
                (try simp only [Act.put, List.setIfInBounds_toArray, List.set_cons_zero, List.set_cons_succ])
                refine anyH_at #[true, true, false, false, false, false, false, false, false, false, false, false, false, false] (by kernel_rfl) ?_
                refine wpAnyH_take (i := 2) (oi := { dst := some 55, op := _, type := _, pos := _, after := _, guard := _ }) (v := ?vv2r10) rfl (by kernel_rfl) (by kernel_rfl) (by kernel_rfl) (fun _ _ _ h => h) (Or.inl ⟨by rfl, ?hy2r10⟩) (by assumption) ?rest2r10
                case hy2r10 => ((intro w hSw; (try dsimp only at hSw); go_simp) <;> with_reducible rfl)
                case rest2r10 =>
                  (try simp only [Act.put, List.setIfInBounds_toArray, List.set_cons_zero, List.set_cons_succ])
                  refine anyH_at #[true, true, true, false, false, false, false, false, false, false, false, false, false, false] (by kernel_rfl) ?_
                  refine wpAnyH_take (i := 3) (oi := { dst := some 56, op := _, type := _, pos := _, after := _, guard := _ }) (v := ?vv3r10) rfl (by kernel_rfl) (by kernel_rfl) (by kernel_rfl) (fun _ _ _ h => h) (Or.inl ⟨by rfl, ?hy3r10⟩) (by assumption) ?rest3r10
                  case hy3r10 => ((intro w hSw; (try dsimp only at hSw); go_simp) <;> with_reducible rfl)
                  case rest3r10 =>
                    (try simp only [Act.put, List.setIfInBounds_toArray, List.set_cons_zero, List.set_cons_succ])
                    refine anyH_at #[true, true, true, true, false, false, false, false, false, false, false, false, false, false] (by kernel_rfl) ?_
                    refine wpAnyH_take (i := 4) (oi := { dst := some 57, op := _, type := _, pos := _, after := _, guard := _ }) (v := ?vv4r10) rfl (by kernel_rfl) (by kernel_rfl) (by kernel_rfl) (fun _ _ _ h => h) (Or.inl ⟨by rfl, ?hy4r10⟩) (by assumption) ?rest4r10
                    case hy4r10 => ((intro w hSw; (try dsimp only at hSw); go_simp) <;> with_reducible rfl)
                    case rest4r10 =>
                      (try simp only [Act.put, List.setIfInBounds_toArray, List.set_cons_zero, List.set_cons_succ])
                      refine anyH_at #[true, true, true, true, true, false, false, false, false, false, false, false, false, false] (by kernel_rfl) ?_
                      refine wpAnyH_take (i := 6) (oi := { dst := some 59, op := _, type := _, pos := _, after := _, guard := _ }) (v := ?vv6r10) rfl (by kernel_rfl) (by kernel_rfl) (by kernel_rfl) (fun _ _ _ h => h) (Or.inl ⟨by rfl, ?hy6r10⟩) (by assumption) ?rest6r10
                      case hy6r10 => ((intro w hSw; (try dsimp only at hSw); go_simp) <;> with_reducible rfl)
                      case rest6r10 =>
                        (try simp only [Act.put, List.setIfInBounds_toArray, List.set_cons_zero, List.set_cons_succ])
                        refine anyH_at #[true, true, true, true, true, false, true, false, false, false, false, false, false, false] (by kernel_rfl) ?_
                        refine wpAnyH_take (i := 7) (oi := { dst := some 60, op := _, type := _, pos := _, after := _, guard := _ }) (v := ?vv7r10) rfl (by kernel_rfl) (by kernel_rfl) (by kernel_rfl) (fun _ _ _ h => h) (Or.inl ⟨by rfl, ?hy7r10⟩) (by assumption) ?rest7r10
                        case hy7r10 => ((intro w hSw; (try dsimp only at hSw); go_simp) <;> with_reducible rfl)
                        case rest7r10 =>
                          (try simp only [Act.put, List.setIfInBounds_toArray, List.set_cons_zero, List.set_cons_succ])
                          refine anyH_at #[true, true, true, true, true, false, true, true, false, false, false, false, false, false] (by kernel_rfl) ?_
                          refine wpAnyH_take (i := 8) (oi := { dst := some 61, op := _, type := _, pos := _, after := _, guard := _ }) (v := ?vv8r10) rfl (by kernel_rfl) (by kernel_rfl) (by kernel_rfl) (fun _ _ _ h => h) (Or.inl ⟨by rfl, ?hy8r10⟩) (by assumption) ?rest8r10
                          case hy8r10 => ((intro w hSw; (try dsimp only at hSw); go_simp) <;> with_reducible rfl)
                          case rest8r10 =>
                            (try simp only [Act.put, List.setIfInBounds_toArray, List.set_cons_zero, List.set_cons_succ])
                            refine anyH_at #[true, true, true, true, true, false, true, true, true, false, false, false, false, false] (by kernel_rfl) ?_
                            refine wpAnyH_take (i := 9) (oi := { dst := some 62, op := _, type := _, pos := _, after := _, guard := _ }) (v := ?vv9r10) rfl (by kernel_rfl) (by kernel_rfl) (by kernel_rfl) (fun _ _ _ h => h) (Or.inl ⟨by rfl, ?hy9r10⟩) (by assumption) ?rest9r10
                            case hy9r10 => ((intro w hSw; (try dsimp only at hSw); go_simp) <;> with_reducible rfl)
                            case rest9r10 =>
                              (try simp only [Act.put, List.setIfInBounds_toArray, List.set_cons_zero, List.set_cons_succ])
                              refine anyH_at #[true, true, true, true, true, false, true, true, true, true, false, false, false, false] (by kernel_rfl) ?_
                              refine wpAnyH_take (i := 10) (oi := { dst := some 63, op := _, type := _, pos := _, after := _, guard := _ }) (v := ?vv10r10) rfl (by kernel_rfl) (by kernel_rfl) (by kernel_rfl) (fun _ _ _ h => h) (Or.inl ⟨by rfl, ?hy10r10⟩) (by assumption) ?rest10r10
                              case hy10r10 => ((intro w hSw; (try dsimp only at hSw); go_simp) <;> with_reducible rfl)
                              case rest10r10 =>
                                (try simp only [Act.put, List.setIfInBounds_toArray, List.set_cons_zero, List.set_cons_succ])
                                refine anyH_at #[true, true, true, true, true, false, true, true, true, true, true, false, false, false] (by kernel_rfl) ?_
                                refine wpAnyH_ready (rs := [5]) (by kernel_rfl) (by simp) ?_
                                refine AllReadyH.cons (o := { dst := some 58, op := _, type := _, pos := _, after := _, guard := _ }) rfl (fun Kk hKk => ?_) AllReadyH.nil
                                go_simp
                                refine (unhide HPa _).mono ?_
                                rintro _ w7 ⟨rfl, hbl⟩
                                have HB := hide (bthen (unhide HB) hbl)
                                have HA := hide ((unhide HA).below hbl)
                                have HP := hide ((unhide HP).below hbl)
                                clear hbl
                                (try go_wp2_with fail)
                                refine hKk.out _ _ ?_ (fun hHeld => ?_)
                                · (try dsimp only)
                                  exact ⟨unhide HA, unhide HP⟩
                                clear hKk Kk
                                (try simp only [List.setIfInBounds_toArray, List.set_cons_zero, List.set_cons_succ])
                                refine anyH_at #[true, true, true, true, true, true, true, true, true, true, true, false, false, false] (by kernel_rfl) ?_
                                refine wpAnyH_ready (rs := [11]) (by kernel_rfl) (by simp) ?_
                                refine AllReadyH.cons (o := { dst := some 64, op := _, type := _, pos := _, after := _, guard := _ }) rfl (fun Kk hKk => ?_) AllReadyH.nil
                                go_simp
                                refine (unhide HPb _).mono ?_
                                rintro _ w8 ⟨rfl, hbl⟩
                                have HB := hide (bthen (unhide HB) hbl)
                                have HA := hide ((unhide HA).below hbl)
                                have HP := hide ((unhide HP).below hbl)
                                clear hbl
                                (try go_wp2_with fail)
                                refine hKk.out _ _ ?_ (fun hHeld => ?_)
                                · (try dsimp only)
                                  exact ⟨unhide HA, unhide HP⟩
                                clear hKk Kk
                                (try simp only [List.setIfInBounds_toArray, List.set_cons_zero, List.set_cons_succ])
                                refine anyH_at #[true, true, true, true, true, true, true, true, true, true, true, true, false, false] (by kernel_rfl) ?_
                                refine wpAnyH_take (i := 12) (oi := { dst := some 8, op := _, type := _, pos := _, after := _, guard := _ }) (v := ?vv12r10) rfl (by kernel_rfl) (by kernel_rfl) (by kernel_rfl) (fun _ _ _ h => h) (Or.inl ⟨by rfl, ?hy12r10⟩) (by assumption) ?rest12r10
                                case hy12r10 => ((intro w hSw; (try dsimp only at hSw); go_simp) <;> with_reducible rfl)
                                case rest12r10 =>
                                  (try simp only [Act.put, List.setIfInBounds_toArray, List.set_cons_zero, List.set_cons_succ])
                                  refine anyH_at #[true, true, true, true, true, true, true, true, true, true, true, true, true, false] (by kernel_rfl) ?_
                                  refine wpAnyH_take (i := 13) (oi := { dst := some 9, op := _, type := _, pos := _, after := _, guard := _ }) (v := ?vv13r10) rfl (by kernel_rfl) (by kernel_rfl) (by kernel_rfl) (fun _ _ _ h => h) (Or.inl ⟨by rfl, ?hy13r10⟩) (by assumption) ?rest13r10
                                  case hy13r10 => ((intro w hSw; (try dsimp only at hSw); go_simp) <;> with_reducible rfl)
                                  case rest13r10 =>
                                    (try simp only [Act.put, List.setIfInBounds_toArray, List.set_cons_zero, List.set_cons_succ])
                                    refine anyH_at #[true, true, true, true, true, true, true, true, true, true, true, true, true, true] (by kernel_rfl) ?_
                                    refine wpAnyH_done (by kernel_rfl) ?_ _
                                    clear hHeld
                                    obtain ⟨a0, a1, a2, a3, a4⟩ := unhide HA
                                    go_wp2_with fail
                                    clear a0 a1 a2 a3 a4
                                    refine (unhide HI _).mono ?_
                                    rintro _ w9 ⟨rfl, hbl⟩
                                    have HB := hide (bthen (unhide HB) hbl)
                                    have HA := hide ((unhide HA).below hbl)
                                    have HP := hide ((unhide HP).below hbl)
                                    clear hbl
                                    obtain ⟨a0, a1, a2, a3, a4⟩ := unhide HA
                                    go_wp2_with fail
                                    clear a0 a1 a2 a3 a4
                                    refine (unhide HD _).mono ?_
                                    rintro _ w10 ⟨rfl, hbl⟩
                                    have HB := hide (bthen (unhide HB) hbl)
                                    have HA := hide ((unhide HA).below hbl)
                                    have HP := hide ((unhide HP).below hbl)
                                    clear hbl
                                    go_wp2_with fail
                                    refine (unhide HZ _).mono ?_
                                    rintro _ w11 ⟨rfl, hbl⟩
                                    have HB := hide (bthen (unhide HB) hbl)
                                    clear hbl
                                    go_wp2_with fail
                                    go_ret
                                    exact ⟨rfl, unhide HB⟩
set_option maxRecDepth 100000 in
set_option maxHeartbeats 4000000 in
theorem keeps_oth32 {w x h l X K E S A B I Z D cv : Int} {n m pn : Bool} (W : World) (g1 : (w != 32) = false) (HO : Hid (∀ W, Calls Try.prog 16 #[.int .i64 w, .int .u64 x] W fun r W' => r = .returned (.agg #[.bool pn, .int .i64 K, .int .i64 E, .int .u64 S]) ∧ Below W.heap.size W W'))
    (HPa : Hid (∀ W, Calls Try.prog 8 #[.int .i64 w, .bool false, .agg #[.int .u64 h, .int .u64 l], .int .i64 X, .bool false] W fun r W' => r = .returned (.int .u64 A) ∧ Below W.heap.size W W')) (HPb : Hid (∀ W, Calls Try.prog 8 #[.int .i64 w, .bool false, .agg #[.int .u64 h, .int .u64 l], .int .i64 X, .bool true] W fun r W' => r = .returned (.int .u64 B) ∧ Below W.heap.size W W'))
    (HI : Hid (∀ W, Calls Try.prog 20 #[.int .i64 w, .bool false] W fun r W' => r = .returned (.int .u64 I) ∧ Below W.heap.size W W')) (HD : Hid (∀ W, Calls Try.prog 8 #[.int .i64 w, .bool true, .agg #[.int .u64 h, .int .u64 l], .int .i64 X, .bool true] W fun r W' => r = .returned (.int .u64 D) ∧ Below W.heap.size W W')) (HZ : Hid (∀ W, Calls Try.prog 21 #[.int .i64 w, .bool true] W fun r W' => r = .returned (.int .u64 Z) ∧ Below W.heap.size W W'))
    (kab : A ≤ B) (kbi : B ≤ I) (ko : bits .or .u64 B Z = D) (k3 : (K != 3) = true) (k1 : (K == 1) = false) (HN : Hid (∀ W, Calls Try.prog 12 #[.int .i64 w, .agg #[.bool pn, .int .i64 K, .int .i64 E, .int .u64 S]] W fun r W' => r = .returned (.int .u64 cv) ∧ Below W.heap.size W W')) (HC : Hid (∀ W, Calls Try.prog 17 #[.int .i64 w, .int .u64 x] W fun r W' => r = .returned (.int .u64 cv) ∧ Below W.heap.size W W')) :
    Calls Try.prog 5 #[.int .i64 w, .int .u64 x, .agg #[.bool n, .int .u64 h, .int .u64 l, .int .i64 X, .bool m]] W fun r W' => r = .returned (.bool true) ∧ Below W.heap.size W W' := by
  go_enter Try.func5, Try.ntmps5
  go_wp2_with fail
  refine (awake_any _).mono ?_
  rintro _ w1 ⟨rfl, hb⟩
  have HA := hide ((at5_new W (.bool n) (.int .u64 h) (.int .u64 l) (.int .i64 X) (.bool m) 26).below hb)
  have HB := hide (bthen (below1 _ _) hb)
  clear hb
  go_wp2_with fail
  refine (unhide HO _).mono ?_
  rintro _ w2 ⟨rfl, hbl⟩
  have HA := hide (((unhide HA).below hbl).below (below1 _ (.cells #[.bool pn, .int .i64 K, .int .i64 E, .int .u64 S] 33)))
  have HP := hide (at4_new w2 (.bool pn) (.int .i64 K) (.int .i64 E) (.int .u64 S) 33)
  have HB := hide (balloc (bthen (unhide HB) hbl) (.cells #[.bool pn, .int .i64 K, .int .i64 E, .int .u64 S] 33))
  clear hbl
  go_wp2_with fail
  refine (unhide HN _).mono ?_
  rintro _ w31 ⟨rfl, hbl⟩
  have HB := hide (bthen (unhide HB) hbl)
  have HA := hide ((unhide HA).below hbl)
  have HP := hide ((unhide HP).below hbl)
  clear hbl
  go_wp2_with fail
  refine (unhide HC _).mono ?_
  rintro _ w32 ⟨rfl, hbl⟩
  have HB := hide (bthen (unhide HB) hbl)
  have HA := hide ((unhide HA).below hbl)
  have HP := hide ((unhide HP).below hbl)
  clear hbl
  obtain ⟨b0, b1, b2, b3⟩ := unhide HP
  go_wp2_with fail
  clear b0 b1 b2 b3
  have HB := hide (unhide HB).drew
  have HA := hide ((unhide HA).below ((Below.refl _ _).drew))
  have HP := hide ((unhide HP).below ((Below.refl _ _).drew))
  refine wp_region_held_drew (S := fun w' => (w'.cell? ⟨W.heap.size, 0, none⟩ = some (.bool n) ∧ w'.cell? ⟨W.heap.size, 1, none⟩ = some (.int .u64 h) ∧ w'.cell? ⟨W.heap.size, 2, none⟩ = some (.int .u64 l) ∧ w'.cell? ⟨W.heap.size, 3, none⟩ = some (.int .i64 X) ∧ w'.cell? ⟨W.heap.size, 4, none⟩ = some (.bool m)) ∧ (w'.cell? ⟨w2.heap.size, 0, none⟩ = some (.bool pn) ∧ w'.cell? ⟨w2.heap.size, 1, none⟩ = some (.int .i64 K) ∧ w'.cell? ⟨w2.heap.size, 2, none⟩ = some (.int .i64 E) ∧ w'.cell? ⟨w2.heap.size, 3, none⟩ = some (.int .u64 S))) (by kernel_rfl) ?_ (fun hHeld => ?_)
  · (try dsimp only)
    exact ⟨unhide HA, unhide HP⟩
  refine anyH_at #[false, false, false, false, false, false, false, false, false, false, false, false, false, false, false, false, false, false, false, false] (by kernel_rfl) ?_
  refine wpAnyH_take (i := 0) (oi := { dst := some 33, op := _, type := _, pos := _, after := _, guard := _ }) (v := ?vv0r8) rfl (by kernel_rfl) (by kernel_rfl) (by kernel_rfl) (fun _ _ _ h => h) (Or.inl ⟨by rfl, ?hy0r8⟩) (by assumption) ?rest0r8
  case hy0r8 => ((intro w hSw; (try dsimp only at hSw); go_simp) <;> with_reducible rfl)
  case rest0r8 =>
    (try simp only [Act.put, List.setIfInBounds_toArray, List.set_cons_zero, List.set_cons_succ])
    refine anyH_at #[true, false, false, false, false, false, false, false, false, false, false, false, false, false, false, false, false, false, false, false] (by kernel_rfl) ?_
    refine wpAnyH_take (i := 1) (oi := { dst := some 34, op := _, type := _, pos := _, after := _, guard := _ }) (v := ?vv1r8) rfl (by kernel_rfl) (by kernel_rfl) (by kernel_rfl) (fun _ _ _ h => h) (Or.inl ⟨by rfl, ?hy1r8⟩) (by assumption) ?rest1r8
    case hy1r8 => ((intro w hSw; (try dsimp only at hSw); go_simp) <;> with_reducible rfl)
    case rest1r8 =>
      (try simp only [Act.put, List.setIfInBounds_toArray, List.set_cons_zero, List.set_cons_succ])
      refine anyH_at #[true, true, false, false, false, false, false, false, false, false, false, false, false, false, false, false, false, false, false, false] (by kernel_rfl) ?_
      refine wpAnyH_take (i := 2) (oi := { dst := some 35, op := _, type := _, pos := _, after := _, guard := _ }) (v := ?vv2r8) rfl (by kernel_rfl) (by kernel_rfl) (by kernel_rfl) (fun _ _ _ h => h) (Or.inl ⟨by rfl, ?hy2r8⟩) (by assumption) ?rest2r8
      case hy2r8 => ((intro w hSw; (try dsimp only at hSw); go_simp) <;> with_reducible rfl)
      case rest2r8 =>
        (try simp only [Act.put, List.setIfInBounds_toArray, List.set_cons_zero, List.set_cons_succ])
        refine anyH_at #[true, true, true, false, false, false, false, false, false, false, false, false, false, false, false, false, false, false, false, false] (by kernel_rfl) ?_
        refine wpAnyH_take (i := 3) (oi := { dst := some 36, op := _, type := _, pos := _, after := _, guard := _ }) (v := ?vv3r8) rfl (by kernel_rfl) (by kernel_rfl) (by kernel_rfl) (fun _ _ _ h => h) (Or.inl ⟨by rfl, ?hy3r8⟩) (by assumption) ?rest3r8
        case hy3r8 => ((intro w hSw; (try dsimp only at hSw); go_simp) <;> with_reducible rfl)
        case rest3r8 =>
          (try simp only [Act.put, List.setIfInBounds_toArray, List.set_cons_zero, List.set_cons_succ])
          refine anyH_at #[true, true, true, true, false, false, false, false, false, false, false, false, false, false, false, false, false, false, false, false] (by kernel_rfl) ?_
          refine wpAnyH_take (i := 4) (oi := { dst := some 37, op := _, type := _, pos := _, after := _, guard := _ }) (v := undef) rfl (by kernel_rfl) (by kernel_rfl) (by kernel_rfl) (fun _ _ _ h => h) (Or.inr ⟨by rfl, rfl⟩) (by assumption) ?_
          (try simp only [Act.put, List.setIfInBounds_toArray, List.set_cons_zero, List.set_cons_succ])
          refine anyH_at #[true, true, true, true, true, false, false, false, false, false, false, false, false, false, false, false, false, false, false, false] (by kernel_rfl) ?_
          refine wpAnyH_take (i := 5) (oi := { dst := some 38, op := _, type := _, pos := _, after := _, guard := _ }) (v := undef) rfl (by kernel_rfl) (by kernel_rfl) (by kernel_rfl) (fun _ _ _ h => h) (Or.inr ⟨by rfl, rfl⟩) (by assumption) ?_
          (try simp only [Act.put, List.setIfInBounds_toArray, List.set_cons_zero, List.set_cons_succ])
          refine anyH_at #[true, true, true, true, true, true, false, false, false, false, false, false, false, false, false, false, false, false, false, false] (by kernel_rfl) ?_
          refine wpAnyH_take (i := 6) (oi := { dst := some 39, op := _, type := _, pos := _, after := _, guard := _ }) (v := undef) rfl (by kernel_rfl) (by kernel_rfl) (by kernel_rfl) (fun _ _ _ h => h) (Or.inr ⟨by rfl, rfl⟩) (by assumption) ?_
          (try simp only [Act.put, List.setIfInBounds_toArray, List.set_cons_zero, List.set_cons_succ])
          refine anyH_at #[true, true, true, true, true, true, true, false, false, false, false, false, false, false, false, false, false, false, false, false] (by kernel_rfl) ?_
          refine wpAnyH_take (i := 7) (oi := { dst := some 40, op := _, type := _, pos := _, after := _, guard := _ }) (v := undef) rfl (by kernel_rfl) (by kernel_rfl) (by kernel_rfl) (fun _ _ _ h => h) (Or.inr ⟨by rfl, rfl⟩) (by assumption) ?_
          (try simp only [Act.put, List.setIfInBounds_toArray, List.set_cons_zero, List.set_cons_succ])
          refine anyH_at #[true, true, true, true, true, true, true, true, false, false, false, false, false, false, false, false, false, false, false, false] (by kernel_rfl) ?_
          refine wpAnyH_take (i := 8) (oi := { dst := some 41, op := _, type := _, pos := _, after := _, guard := _ }) (v := undef) rfl (by kernel_rfl) (by kernel_rfl) (by kernel_rfl) (fun _ _ _ h => h) (Or.inr ⟨by rfl, rfl⟩) (by assumption) ?_
          (try simp only [Act.put, List.setIfInBounds_toArray, List.set_cons_zero, List.set_cons_succ])
          refine anyH_at #[true, true, true, true, true, true, true, true, true, false, false, false, false, false, false, false, false, false, false, false] (by kernel_rfl) ?_
          refine wpAnyH_take (i := 11) (oi := { dst := some 44, op := _, type := _, pos := _, after := _, guard := _ }) (v := undef) rfl (by kernel_rfl) (by kernel_rfl) (by kernel_rfl) (fun _ _ _ h => h) (Or.inr ⟨by rfl, rfl⟩) (by assumption) ?_
          (try simp only [Act.put, List.setIfInBounds_toArray, List.set_cons_zero, List.set_cons_succ])
          refine anyH_at #[true, true, true, true, true, true, true, true, true, false, false, true, false, false, false, false, false, false, false, false] (by kernel_rfl) ?_
          refine wpAnyH_take (i := 12) (oi := { dst := some 45, op := _, type := _, pos := _, after := _, guard := _ }) (v := undef) rfl (by kernel_rfl) (by kernel_rfl) (by kernel_rfl) (fun _ _ _ h => h) (Or.inr ⟨by rfl, rfl⟩) (by assumption) ?_
          (try simp only [Act.put, List.setIfInBounds_toArray, List.set_cons_zero, List.set_cons_succ])
          refine anyH_at #[true, true, true, true, true, true, true, true, true, false, false, true, true, false, false, false, false, false, false, false] (by kernel_rfl) ?_
          refine wpAnyH_take (i := 13) (oi := { dst := some 46, op := _, type := _, pos := _, after := _, guard := _ }) (v := undef) rfl (by kernel_rfl) (by kernel_rfl) (by kernel_rfl) (fun _ _ _ h => h) (Or.inr ⟨by rfl, rfl⟩) (by assumption) ?_
          (try simp only [Act.put, List.setIfInBounds_toArray, List.set_cons_zero, List.set_cons_succ])
          refine anyH_at #[true, true, true, true, true, true, true, true, true, false, false, true, true, true, false, false, false, false, false, false] (by kernel_rfl) ?_
          refine wpAnyH_take (i := 15) (oi := { dst := some 48, op := _, type := _, pos := _, after := _, guard := _ }) (v := undef) rfl (by kernel_rfl) (by kernel_rfl) (by kernel_rfl) (fun _ _ _ h => h) (Or.inr ⟨by rfl, rfl⟩) (by assumption) ?_
          (try simp only [Act.put, List.setIfInBounds_toArray, List.set_cons_zero, List.set_cons_succ])
          refine anyH_at #[true, true, true, true, true, true, true, true, true, false, false, true, true, true, false, true, false, false, false, false] (by kernel_rfl) ?_
          refine wpAnyH_take (i := 16) (oi := { dst := some 49, op := _, type := _, pos := _, after := _, guard := _ }) (v := undef) rfl (by kernel_rfl) (by kernel_rfl) (by kernel_rfl) (fun _ _ _ h => h) (Or.inr ⟨by rfl, rfl⟩) (by assumption) ?_
          (try simp only [Act.put, List.setIfInBounds_toArray, List.set_cons_zero, List.set_cons_succ])
          refine anyH_at #[true, true, true, true, true, true, true, true, true, false, false, true, true, true, false, true, true, false, false, false] (by kernel_rfl) ?_
          refine wpAnyH_ready (rs := [9]) (by kernel_rfl) (by simp) ?_
          refine AllReadyH.cons (o := { dst := some 42, op := _, type := _, pos := _, after := _, guard := _ }) rfl (fun Kk hKk => ?_) AllReadyH.nil
          go_simp
          refine hKk.out _ _ ?_ (fun hHeld => ?_)
          · (try dsimp only)
            exact hHeld
          clear hKk Kk
          (try simp only [List.setIfInBounds_toArray, List.set_cons_zero, List.set_cons_succ])
          refine anyH_at #[true, true, true, true, true, true, true, true, true, true, false, true, true, true, false, true, true, false, false, false] (by kernel_rfl) ?_
          refine wpAnyH_ready (rs := [10]) (by kernel_rfl) (by simp) ?_
          refine AllReadyH.cons (o := { dst := some 43, op := _, type := _, pos := _, after := _, guard := _ }) rfl (fun Kk hKk => ?_) AllReadyH.nil
          go_simp
          refine hKk.out _ _ ?_ (fun hHeld => ?_)
          · (try dsimp only)
            exact hHeld
          clear hKk Kk
          (try simp only [List.setIfInBounds_toArray, List.set_cons_zero, List.set_cons_succ])
          refine anyH_at #[true, true, true, true, true, true, true, true, true, true, true, true, true, true, false, true, true, false, false, false] (by kernel_rfl) ?_
          refine wpAnyH_ready (rs := [14]) (by kernel_rfl) (by simp) ?_
          refine AllReadyH.cons (o := { dst := some 47, op := _, type := _, pos := _, after := _, guard := _ }) rfl (fun Kk hKk => ?_) AllReadyH.nil
          go_simp
          refine hKk.out _ _ ?_ (fun hHeld => ?_)
          · (try dsimp only)
            exact hHeld
          clear hKk Kk
          (try simp only [List.setIfInBounds_toArray, List.set_cons_zero, List.set_cons_succ])
          refine anyH_at #[true, true, true, true, true, true, true, true, true, true, true, true, true, true, true, true, true, false, false, false] (by kernel_rfl) ?_
          refine wpAnyH_ready (rs := [17]) (by kernel_rfl) (by simp) ?_
          refine AllReadyH.cons (o := { dst := some 50, op := _, type := _, pos := _, after := _, guard := _ }) rfl (fun Kk hKk => ?_) AllReadyH.nil
          go_simp
          refine hKk.out _ _ ?_ (fun hHeld => ?_)
          · (try dsimp only)
            exact hHeld
          clear hKk Kk
          (try simp only [List.setIfInBounds_toArray, List.set_cons_zero, List.set_cons_succ])
          refine anyH_at #[true, true, true, true, true, true, true, true, true, true, true, true, true, true, true, true, true, true, false, false] (by kernel_rfl) ?_
          refine wpAnyH_take (i := 18) (oi := { dst := some 51, op := _, type := _, pos := _, after := _, guard := _ }) (v := undef) rfl (by kernel_rfl) (by kernel_rfl) (by kernel_rfl) (fun _ _ _ h => h) (Or.inr ⟨by rfl, rfl⟩) (by assumption) ?_
          (try simp only [Act.put, List.setIfInBounds_toArray, List.set_cons_zero, List.set_cons_succ])
          refine anyH_at #[true, true, true, true, true, true, true, true, true, true, true, true, true, true, true, true, true, true, true, false] (by kernel_rfl) ?_
          refine wpAnyH_take (i := 19) (oi := { dst := some 52, op := _, type := _, pos := _, after := _, guard := _ }) (v := ?vv19r8) rfl (by kernel_rfl) (by kernel_rfl) (by kernel_rfl) (fun _ _ _ h => h) (Or.inl ⟨by rfl, ?hy19r8⟩) (by assumption) ?rest19r8
          case hy19r8 => ((intro w hSw; (try dsimp only at hSw); go_simp) <;> with_reducible rfl)
          case rest19r8 =>
            (try simp only [Act.put, List.setIfInBounds_toArray, List.set_cons_zero, List.set_cons_succ])
            refine anyH_at #[true, true, true, true, true, true, true, true, true, true, true, true, true, true, true, true, true, true, true, true] (by kernel_rfl) ?_
            refine wpAnyH_done (by kernel_rfl) ?_ _
            clear hHeld
            go_wp2_with fail
            have HB := hide (unhide HB).drew
            have HA := hide ((unhide HA).below ((Below.refl _ _).drew))
            have HP := hide ((unhide HP).below ((Below.refl _ _).drew))
            refine wp_region_held_drew (S := fun w' => (w'.cell? ⟨W.heap.size, 0, none⟩ = some (.bool n) ∧ w'.cell? ⟨W.heap.size, 1, none⟩ = some (.int .u64 h) ∧ w'.cell? ⟨W.heap.size, 2, none⟩ = some (.int .u64 l) ∧ w'.cell? ⟨W.heap.size, 3, none⟩ = some (.int .i64 X) ∧ w'.cell? ⟨W.heap.size, 4, none⟩ = some (.bool m)) ∧ (w'.cell? ⟨w2.heap.size, 0, none⟩ = some (.bool pn) ∧ w'.cell? ⟨w2.heap.size, 1, none⟩ = some (.int .i64 K) ∧ w'.cell? ⟨w2.heap.size, 2, none⟩ = some (.int .i64 E) ∧ w'.cell? ⟨w2.heap.size, 3, none⟩ = some (.int .u64 S))) (by kernel_rfl) ?_ (fun hHeld => ?_)
            · (try dsimp only)
              exact ⟨unhide HA, unhide HP⟩
            refine anyH_at #[false, false, false, false, false, false, false, false, false, false, false, false, false, false] (by kernel_rfl) ?_
            refine wpAnyH_take (i := 0) (oi := { dst := some 53, op := _, type := _, pos := _, after := _, guard := _ }) (v := ?vv0r10) rfl (by kernel_rfl) (by kernel_rfl) (by kernel_rfl) (fun _ _ _ h => h) (Or.inl ⟨by rfl, ?hy0r10⟩) (by assumption) ?rest0r10
            case hy0r10 => ((intro w hSw; (try dsimp only at hSw); go_simp) <;> with_reducible rfl)
            case rest0r10 =>
              (try simp only [Act.put, List.setIfInBounds_toArray, List.set_cons_zero, List.set_cons_succ])
              refine anyH_at #[true, false, false, false, false, false, false, false, false, false, false, false, false, false] (by kernel_rfl) ?_
              refine wpAnyH_take (i := 1) (oi := { dst := some 54, op := _, type := _, pos := _, after := _, guard := _ }) (v := ?vv1r10) rfl (by kernel_rfl) (by kernel_rfl) (by kernel_rfl) (fun _ _ _ h => h) (Or.inl ⟨by rfl, ?hy1r10⟩) (by assumption) ?rest1r10
              case hy1r10 => ((intro w hSw; (try dsimp only at hSw); go_simp) <;> with_reducible rfl)
              case rest1r10 =>
                (try simp only [Act.put, List.setIfInBounds_toArray, List.set_cons_zero, List.set_cons_succ])
                refine anyH_at #[true, true, false, false, false, false, false, false, false, false, false, false, false, false] (by kernel_rfl) ?_
                refine wpAnyH_take (i := 2) (oi := { dst := some 55, op := _, type := _, pos := _, after := _, guard := _ }) (v := ?vv2r10) rfl (by kernel_rfl) (by kernel_rfl) (by kernel_rfl) (fun _ _ _ h => h) (Or.inl ⟨by rfl, ?hy2r10⟩) (by assumption) ?rest2r10
                case hy2r10 => ((intro w hSw; (try dsimp only at hSw); go_simp) <;> with_reducible rfl)
                case rest2r10 =>
                  (try simp only [Act.put, List.setIfInBounds_toArray, List.set_cons_zero, List.set_cons_succ])
                  refine anyH_at #[true, true, true, false, false, false, false, false, false, false, false, false, false, false] (by kernel_rfl) ?_
                  refine wpAnyH_take (i := 3) (oi := { dst := some 56, op := _, type := _, pos := _, after := _, guard := _ }) (v := ?vv3r10) rfl (by kernel_rfl) (by kernel_rfl) (by kernel_rfl) (fun _ _ _ h => h) (Or.inl ⟨by rfl, ?hy3r10⟩) (by assumption) ?rest3r10
                  case hy3r10 => ((intro w hSw; (try dsimp only at hSw); go_simp) <;> with_reducible rfl)
                  case rest3r10 =>
                    (try simp only [Act.put, List.setIfInBounds_toArray, List.set_cons_zero, List.set_cons_succ])
                    refine anyH_at #[true, true, true, true, false, false, false, false, false, false, false, false, false, false] (by kernel_rfl) ?_
                    refine wpAnyH_take (i := 4) (oi := { dst := some 57, op := _, type := _, pos := _, after := _, guard := _ }) (v := ?vv4r10) rfl (by kernel_rfl) (by kernel_rfl) (by kernel_rfl) (fun _ _ _ h => h) (Or.inl ⟨by rfl, ?hy4r10⟩) (by assumption) ?rest4r10
                    case hy4r10 => ((intro w hSw; (try dsimp only at hSw); go_simp) <;> with_reducible rfl)
                    case rest4r10 =>
                      (try simp only [Act.put, List.setIfInBounds_toArray, List.set_cons_zero, List.set_cons_succ])
                      refine anyH_at #[true, true, true, true, true, false, false, false, false, false, false, false, false, false] (by kernel_rfl) ?_
                      refine wpAnyH_take (i := 6) (oi := { dst := some 59, op := _, type := _, pos := _, after := _, guard := _ }) (v := ?vv6r10) rfl (by kernel_rfl) (by kernel_rfl) (by kernel_rfl) (fun _ _ _ h => h) (Or.inl ⟨by rfl, ?hy6r10⟩) (by assumption) ?rest6r10
                      case hy6r10 => ((intro w hSw; (try dsimp only at hSw); go_simp) <;> with_reducible rfl)
                      case rest6r10 =>
                        (try simp only [Act.put, List.setIfInBounds_toArray, List.set_cons_zero, List.set_cons_succ])
                        refine anyH_at #[true, true, true, true, true, false, true, false, false, false, false, false, false, false] (by kernel_rfl) ?_
                        refine wpAnyH_take (i := 7) (oi := { dst := some 60, op := _, type := _, pos := _, after := _, guard := _ }) (v := ?vv7r10) rfl (by kernel_rfl) (by kernel_rfl) (by kernel_rfl) (fun _ _ _ h => h) (Or.inl ⟨by rfl, ?hy7r10⟩) (by assumption) ?rest7r10
                        case hy7r10 => ((intro w hSw; (try dsimp only at hSw); go_simp) <;> with_reducible rfl)
                        case rest7r10 =>
                          (try simp only [Act.put, List.setIfInBounds_toArray, List.set_cons_zero, List.set_cons_succ])
                          refine anyH_at #[true, true, true, true, true, false, true, true, false, false, false, false, false, false] (by kernel_rfl) ?_
                          refine wpAnyH_take (i := 8) (oi := { dst := some 61, op := _, type := _, pos := _, after := _, guard := _ }) (v := ?vv8r10) rfl (by kernel_rfl) (by kernel_rfl) (by kernel_rfl) (fun _ _ _ h => h) (Or.inl ⟨by rfl, ?hy8r10⟩) (by assumption) ?rest8r10
                          case hy8r10 => ((intro w hSw; (try dsimp only at hSw); go_simp) <;> with_reducible rfl)
                          case rest8r10 =>
                            (try simp only [Act.put, List.setIfInBounds_toArray, List.set_cons_zero, List.set_cons_succ])
                            refine anyH_at #[true, true, true, true, true, false, true, true, true, false, false, false, false, false] (by kernel_rfl) ?_
                            refine wpAnyH_take (i := 9) (oi := { dst := some 62, op := _, type := _, pos := _, after := _, guard := _ }) (v := ?vv9r10) rfl (by kernel_rfl) (by kernel_rfl) (by kernel_rfl) (fun _ _ _ h => h) (Or.inl ⟨by rfl, ?hy9r10⟩) (by assumption) ?rest9r10
                            case hy9r10 => ((intro w hSw; (try dsimp only at hSw); go_simp) <;> with_reducible rfl)
                            case rest9r10 =>
                              (try simp only [Act.put, List.setIfInBounds_toArray, List.set_cons_zero, List.set_cons_succ])
                              refine anyH_at #[true, true, true, true, true, false, true, true, true, true, false, false, false, false] (by kernel_rfl) ?_
                              refine wpAnyH_take (i := 10) (oi := { dst := some 63, op := _, type := _, pos := _, after := _, guard := _ }) (v := ?vv10r10) rfl (by kernel_rfl) (by kernel_rfl) (by kernel_rfl) (fun _ _ _ h => h) (Or.inl ⟨by rfl, ?hy10r10⟩) (by assumption) ?rest10r10
                              case hy10r10 => ((intro w hSw; (try dsimp only at hSw); go_simp) <;> with_reducible rfl)
                              case rest10r10 =>
                                (try simp only [Act.put, List.setIfInBounds_toArray, List.set_cons_zero, List.set_cons_succ])
                                refine anyH_at #[true, true, true, true, true, false, true, true, true, true, true, false, false, false] (by kernel_rfl) ?_
                                refine wpAnyH_ready (rs := [5]) (by kernel_rfl) (by simp) ?_
                                refine AllReadyH.cons (o := { dst := some 58, op := _, type := _, pos := _, after := _, guard := _ }) rfl (fun Kk hKk => ?_) AllReadyH.nil
                                go_simp
                                refine (unhide HPa _).mono ?_
                                rintro _ w7 ⟨rfl, hbl⟩
                                have HB := hide (bthen (unhide HB) hbl)
                                have HA := hide ((unhide HA).below hbl)
                                have HP := hide ((unhide HP).below hbl)
                                clear hbl
                                (try go_wp2_with fail)
                                refine hKk.out _ _ ?_ (fun hHeld => ?_)
                                · (try dsimp only)
                                  exact ⟨unhide HA, unhide HP⟩
                                clear hKk Kk
                                (try simp only [List.setIfInBounds_toArray, List.set_cons_zero, List.set_cons_succ])
                                refine anyH_at #[true, true, true, true, true, true, true, true, true, true, true, false, false, false] (by kernel_rfl) ?_
                                refine wpAnyH_ready (rs := [11]) (by kernel_rfl) (by simp) ?_
                                refine AllReadyH.cons (o := { dst := some 64, op := _, type := _, pos := _, after := _, guard := _ }) rfl (fun Kk hKk => ?_) AllReadyH.nil
                                go_simp
                                refine (unhide HPb _).mono ?_
                                rintro _ w8 ⟨rfl, hbl⟩
                                have HB := hide (bthen (unhide HB) hbl)
                                have HA := hide ((unhide HA).below hbl)
                                have HP := hide ((unhide HP).below hbl)
                                clear hbl
                                (try go_wp2_with fail)
                                refine hKk.out _ _ ?_ (fun hHeld => ?_)
                                · (try dsimp only)
                                  exact ⟨unhide HA, unhide HP⟩
                                clear hKk Kk
                                (try simp only [List.setIfInBounds_toArray, List.set_cons_zero, List.set_cons_succ])
                                refine anyH_at #[true, true, true, true, true, true, true, true, true, true, true, true, false, false] (by kernel_rfl) ?_
                                refine wpAnyH_take (i := 12) (oi := { dst := some 8, op := _, type := _, pos := _, after := _, guard := _ }) (v := ?vv12r10) rfl (by kernel_rfl) (by kernel_rfl) (by kernel_rfl) (fun _ _ _ h => h) (Or.inl ⟨by rfl, ?hy12r10⟩) (by assumption) ?rest12r10
                                case hy12r10 => ((intro w hSw; (try dsimp only at hSw); go_simp) <;> with_reducible rfl)
                                case rest12r10 =>
                                  (try simp only [Act.put, List.setIfInBounds_toArray, List.set_cons_zero, List.set_cons_succ])
                                  refine anyH_at #[true, true, true, true, true, true, true, true, true, true, true, true, true, false] (by kernel_rfl) ?_
                                  refine wpAnyH_take (i := 13) (oi := { dst := some 9, op := _, type := _, pos := _, after := _, guard := _ }) (v := ?vv13r10) rfl (by kernel_rfl) (by kernel_rfl) (by kernel_rfl) (fun _ _ _ h => h) (Or.inl ⟨by rfl, ?hy13r10⟩) (by assumption) ?rest13r10
                                  case hy13r10 => ((intro w hSw; (try dsimp only at hSw); go_simp) <;> with_reducible rfl)
                                  case rest13r10 =>
                                    (try simp only [Act.put, List.setIfInBounds_toArray, List.set_cons_zero, List.set_cons_succ])
                                    refine anyH_at #[true, true, true, true, true, true, true, true, true, true, true, true, true, true] (by kernel_rfl) ?_
                                    refine wpAnyH_done (by kernel_rfl) ?_ _
                                    clear hHeld
                                    obtain ⟨a0, a1, a2, a3, a4⟩ := unhide HA
                                    go_wp2_with fail
                                    clear a0 a1 a2 a3 a4
                                    refine (unhide HI _).mono ?_
                                    rintro _ w9 ⟨rfl, hbl⟩
                                    have HB := hide (bthen (unhide HB) hbl)
                                    have HA := hide ((unhide HA).below hbl)
                                    have HP := hide ((unhide HP).below hbl)
                                    clear hbl
                                    obtain ⟨a0, a1, a2, a3, a4⟩ := unhide HA
                                    go_wp2_with fail
                                    clear a0 a1 a2 a3 a4
                                    refine (unhide HD _).mono ?_
                                    rintro _ w10 ⟨rfl, hbl⟩
                                    have HB := hide (bthen (unhide HB) hbl)
                                    have HA := hide ((unhide HA).below hbl)
                                    have HP := hide ((unhide HP).below hbl)
                                    clear hbl
                                    go_wp2_with fail
                                    refine (unhide HZ _).mono ?_
                                    rintro _ w11 ⟨rfl, hbl⟩
                                    have HB := hide (bthen (unhide HB) hbl)
                                    clear hbl
                                    go_wp2_with fail
                                    go_ret
                                    exact ⟨rfl, unhide HB⟩
set_option maxRecDepth 100000 in
set_option maxHeartbeats 4000000 in
theorem keeps_oth64 {w x h l X K E S A B I Z D cv : Int} {n m pn : Bool} (W : World) (g1 : (w != 32) = true) (g2 : (w != 64) = false) (HO : Hid (∀ W, Calls Try.prog 16 #[.int .i64 w, .int .u64 x] W fun r W' => r = .returned (.agg #[.bool pn, .int .i64 K, .int .i64 E, .int .u64 S]) ∧ Below W.heap.size W W'))
    (HPa : Hid (∀ W, Calls Try.prog 8 #[.int .i64 w, .bool false, .agg #[.int .u64 h, .int .u64 l], .int .i64 X, .bool false] W fun r W' => r = .returned (.int .u64 A) ∧ Below W.heap.size W W')) (HPb : Hid (∀ W, Calls Try.prog 8 #[.int .i64 w, .bool false, .agg #[.int .u64 h, .int .u64 l], .int .i64 X, .bool true] W fun r W' => r = .returned (.int .u64 B) ∧ Below W.heap.size W W'))
    (HI : Hid (∀ W, Calls Try.prog 20 #[.int .i64 w, .bool false] W fun r W' => r = .returned (.int .u64 I) ∧ Below W.heap.size W W')) (HD : Hid (∀ W, Calls Try.prog 8 #[.int .i64 w, .bool true, .agg #[.int .u64 h, .int .u64 l], .int .i64 X, .bool true] W fun r W' => r = .returned (.int .u64 D) ∧ Below W.heap.size W W')) (HZ : Hid (∀ W, Calls Try.prog 21 #[.int .i64 w, .bool true] W fun r W' => r = .returned (.int .u64 Z) ∧ Below W.heap.size W W'))
    (kab : A ≤ B) (kbi : B ≤ I) (ko : bits .or .u64 B Z = D) (k3 : (K != 3) = true) (k1 : (K == 1) = false) (HN : Hid (∀ W, Calls Try.prog 12 #[.int .i64 w, .agg #[.bool pn, .int .i64 K, .int .i64 E, .int .u64 S]] W fun r W' => r = .returned (.int .u64 cv) ∧ Below W.heap.size W W')) (HC : Hid (∀ W, Calls Try.prog 17 #[.int .i64 w, .int .u64 x] W fun r W' => r = .returned (.int .u64 cv) ∧ Below W.heap.size W W')) :
    Calls Try.prog 5 #[.int .i64 w, .int .u64 x, .agg #[.bool n, .int .u64 h, .int .u64 l, .int .i64 X, .bool m]] W fun r W' => r = .returned (.bool true) ∧ Below W.heap.size W W' := by
  go_enter Try.func5, Try.ntmps5
  go_wp2_with fail
  refine (awake_any _).mono ?_
  rintro _ w1 ⟨rfl, hb⟩
  have HA := hide ((at5_new W (.bool n) (.int .u64 h) (.int .u64 l) (.int .i64 X) (.bool m) 26).below hb)
  have HB := hide (bthen (below1 _ _) hb)
  clear hb
  go_wp2_with fail
  refine (unhide HO _).mono ?_
  rintro _ w2 ⟨rfl, hbl⟩
  have HA := hide (((unhide HA).below hbl).below (below1 _ (.cells #[.bool pn, .int .i64 K, .int .i64 E, .int .u64 S] 33)))
  have HP := hide (at4_new w2 (.bool pn) (.int .i64 K) (.int .i64 E) (.int .u64 S) 33)
  have HB := hide (balloc (bthen (unhide HB) hbl) (.cells #[.bool pn, .int .i64 K, .int .i64 E, .int .u64 S] 33))
  clear hbl
  go_wp2_with fail
  refine (unhide HN _).mono ?_
  rintro _ w31 ⟨rfl, hbl⟩
  have HB := hide (bthen (unhide HB) hbl)
  have HA := hide ((unhide HA).below hbl)
  have HP := hide ((unhide HP).below hbl)
  clear hbl
  go_wp2_with fail
  refine (unhide HC _).mono ?_
  rintro _ w32 ⟨rfl, hbl⟩
  have HB := hide (bthen (unhide HB) hbl)
  have HA := hide ((unhide HA).below hbl)
  have HP := hide ((unhide HP).below hbl)
  clear hbl
  obtain ⟨b0, b1, b2, b3⟩ := unhide HP
  go_wp2_with fail
  clear b0 b1 b2 b3
  have HB := hide (unhide HB).drew
  have HA := hide ((unhide HA).below ((Below.refl _ _).drew))
  have HP := hide ((unhide HP).below ((Below.refl _ _).drew))
  refine wp_region_held_drew (S := fun w' => (w'.cell? ⟨W.heap.size, 0, none⟩ = some (.bool n) ∧ w'.cell? ⟨W.heap.size, 1, none⟩ = some (.int .u64 h) ∧ w'.cell? ⟨W.heap.size, 2, none⟩ = some (.int .u64 l) ∧ w'.cell? ⟨W.heap.size, 3, none⟩ = some (.int .i64 X) ∧ w'.cell? ⟨W.heap.size, 4, none⟩ = some (.bool m)) ∧ (w'.cell? ⟨w2.heap.size, 0, none⟩ = some (.bool pn) ∧ w'.cell? ⟨w2.heap.size, 1, none⟩ = some (.int .i64 K) ∧ w'.cell? ⟨w2.heap.size, 2, none⟩ = some (.int .i64 E) ∧ w'.cell? ⟨w2.heap.size, 3, none⟩ = some (.int .u64 S))) (by kernel_rfl) ?_ (fun hHeld => ?_)
  · (try dsimp only)
    exact ⟨unhide HA, unhide HP⟩
  refine anyH_at #[false, false, false, false, false, false, false, false, false, false, false, false, false, false, false, false, false, false, false, false] (by kernel_rfl) ?_
  refine wpAnyH_take (i := 0) (oi := { dst := some 33, op := _, type := _, pos := _, after := _, guard := _ }) (v := ?vv0r8) rfl (by kernel_rfl) (by kernel_rfl) (by kernel_rfl) (fun _ _ _ h => h) (Or.inl ⟨by rfl, ?hy0r8⟩) (by assumption) ?rest0r8
  case hy0r8 => ((intro w hSw; (try dsimp only at hSw); go_simp) <;> with_reducible rfl)
  case rest0r8 =>
    (try simp only [Act.put, List.setIfInBounds_toArray, List.set_cons_zero, List.set_cons_succ])
    refine anyH_at #[true, false, false, false, false, false, false, false, false, false, false, false, false, false, false, false, false, false, false, false] (by kernel_rfl) ?_
    refine wpAnyH_take (i := 1) (oi := { dst := some 34, op := _, type := _, pos := _, after := _, guard := _ }) (v := ?vv1r8) rfl (by kernel_rfl) (by kernel_rfl) (by kernel_rfl) (fun _ _ _ h => h) (Or.inl ⟨by rfl, ?hy1r8⟩) (by assumption) ?rest1r8
    case hy1r8 => ((intro w hSw; (try dsimp only at hSw); go_simp) <;> with_reducible rfl)
    case rest1r8 =>
      (try simp only [Act.put, List.setIfInBounds_toArray, List.set_cons_zero, List.set_cons_succ])
      refine anyH_at #[true, true, false, false, false, false, false, false, false, false, false, false, false, false, false, false, false, false, false, false] (by kernel_rfl) ?_
      refine wpAnyH_take (i := 2) (oi := { dst := some 35, op := _, type := _, pos := _, after := _, guard := _ }) (v := ?vv2r8) rfl (by kernel_rfl) (by kernel_rfl) (by kernel_rfl) (fun _ _ _ h => h) (Or.inl ⟨by rfl, ?hy2r8⟩) (by assumption) ?rest2r8
      case hy2r8 => ((intro w hSw; (try dsimp only at hSw); go_simp) <;> with_reducible rfl)
      case rest2r8 =>
        (try simp only [Act.put, List.setIfInBounds_toArray, List.set_cons_zero, List.set_cons_succ])
        refine anyH_at #[true, true, true, false, false, false, false, false, false, false, false, false, false, false, false, false, false, false, false, false] (by kernel_rfl) ?_
        refine wpAnyH_take (i := 3) (oi := { dst := some 36, op := _, type := _, pos := _, after := _, guard := _ }) (v := ?vv3r8) rfl (by kernel_rfl) (by kernel_rfl) (by kernel_rfl) (fun _ _ _ h => h) (Or.inl ⟨by rfl, ?hy3r8⟩) (by assumption) ?rest3r8
        case hy3r8 => ((intro w hSw; (try dsimp only at hSw); go_simp) <;> with_reducible rfl)
        case rest3r8 =>
          (try simp only [Act.put, List.setIfInBounds_toArray, List.set_cons_zero, List.set_cons_succ])
          refine anyH_at #[true, true, true, true, false, false, false, false, false, false, false, false, false, false, false, false, false, false, false, false] (by kernel_rfl) ?_
          refine wpAnyH_take (i := 4) (oi := { dst := some 37, op := _, type := _, pos := _, after := _, guard := _ }) (v := undef) rfl (by kernel_rfl) (by kernel_rfl) (by kernel_rfl) (fun _ _ _ h => h) (Or.inr ⟨by rfl, rfl⟩) (by assumption) ?_
          (try simp only [Act.put, List.setIfInBounds_toArray, List.set_cons_zero, List.set_cons_succ])
          refine anyH_at #[true, true, true, true, true, false, false, false, false, false, false, false, false, false, false, false, false, false, false, false] (by kernel_rfl) ?_
          refine wpAnyH_take (i := 5) (oi := { dst := some 38, op := _, type := _, pos := _, after := _, guard := _ }) (v := undef) rfl (by kernel_rfl) (by kernel_rfl) (by kernel_rfl) (fun _ _ _ h => h) (Or.inr ⟨by rfl, rfl⟩) (by assumption) ?_
          (try simp only [Act.put, List.setIfInBounds_toArray, List.set_cons_zero, List.set_cons_succ])
          refine anyH_at #[true, true, true, true, true, true, false, false, false, false, false, false, false, false, false, false, false, false, false, false] (by kernel_rfl) ?_
          refine wpAnyH_take (i := 6) (oi := { dst := some 39, op := _, type := _, pos := _, after := _, guard := _ }) (v := undef) rfl (by kernel_rfl) (by kernel_rfl) (by kernel_rfl) (fun _ _ _ h => h) (Or.inr ⟨by rfl, rfl⟩) (by assumption) ?_
          (try simp only [Act.put, List.setIfInBounds_toArray, List.set_cons_zero, List.set_cons_succ])
          refine anyH_at #[true, true, true, true, true, true, true, false, false, false, false, false, false, false, false, false, false, false, false, false] (by kernel_rfl) ?_
          refine wpAnyH_take (i := 7) (oi := { dst := some 40, op := _, type := _, pos := _, after := _, guard := _ }) (v := undef) rfl (by kernel_rfl) (by kernel_rfl) (by kernel_rfl) (fun _ _ _ h => h) (Or.inr ⟨by rfl, rfl⟩) (by assumption) ?_
          (try simp only [Act.put, List.setIfInBounds_toArray, List.set_cons_zero, List.set_cons_succ])
          refine anyH_at #[true, true, true, true, true, true, true, true, false, false, false, false, false, false, false, false, false, false, false, false] (by kernel_rfl) ?_
          refine wpAnyH_take (i := 8) (oi := { dst := some 41, op := _, type := _, pos := _, after := _, guard := _ }) (v := undef) rfl (by kernel_rfl) (by kernel_rfl) (by kernel_rfl) (fun _ _ _ h => h) (Or.inr ⟨by rfl, rfl⟩) (by assumption) ?_
          (try simp only [Act.put, List.setIfInBounds_toArray, List.set_cons_zero, List.set_cons_succ])
          refine anyH_at #[true, true, true, true, true, true, true, true, true, false, false, false, false, false, false, false, false, false, false, false] (by kernel_rfl) ?_
          refine wpAnyH_take (i := 11) (oi := { dst := some 44, op := _, type := _, pos := _, after := _, guard := _ }) (v := undef) rfl (by kernel_rfl) (by kernel_rfl) (by kernel_rfl) (fun _ _ _ h => h) (Or.inr ⟨by rfl, rfl⟩) (by assumption) ?_
          (try simp only [Act.put, List.setIfInBounds_toArray, List.set_cons_zero, List.set_cons_succ])
          refine anyH_at #[true, true, true, true, true, true, true, true, true, false, false, true, false, false, false, false, false, false, false, false] (by kernel_rfl) ?_
          refine wpAnyH_take (i := 12) (oi := { dst := some 45, op := _, type := _, pos := _, after := _, guard := _ }) (v := undef) rfl (by kernel_rfl) (by kernel_rfl) (by kernel_rfl) (fun _ _ _ h => h) (Or.inr ⟨by rfl, rfl⟩) (by assumption) ?_
          (try simp only [Act.put, List.setIfInBounds_toArray, List.set_cons_zero, List.set_cons_succ])
          refine anyH_at #[true, true, true, true, true, true, true, true, true, false, false, true, true, false, false, false, false, false, false, false] (by kernel_rfl) ?_
          refine wpAnyH_take (i := 13) (oi := { dst := some 46, op := _, type := _, pos := _, after := _, guard := _ }) (v := undef) rfl (by kernel_rfl) (by kernel_rfl) (by kernel_rfl) (fun _ _ _ h => h) (Or.inr ⟨by rfl, rfl⟩) (by assumption) ?_
          (try simp only [Act.put, List.setIfInBounds_toArray, List.set_cons_zero, List.set_cons_succ])
          refine anyH_at #[true, true, true, true, true, true, true, true, true, false, false, true, true, true, false, false, false, false, false, false] (by kernel_rfl) ?_
          refine wpAnyH_take (i := 15) (oi := { dst := some 48, op := _, type := _, pos := _, after := _, guard := _ }) (v := undef) rfl (by kernel_rfl) (by kernel_rfl) (by kernel_rfl) (fun _ _ _ h => h) (Or.inr ⟨by rfl, rfl⟩) (by assumption) ?_
          (try simp only [Act.put, List.setIfInBounds_toArray, List.set_cons_zero, List.set_cons_succ])
          refine anyH_at #[true, true, true, true, true, true, true, true, true, false, false, true, true, true, false, true, false, false, false, false] (by kernel_rfl) ?_
          refine wpAnyH_take (i := 16) (oi := { dst := some 49, op := _, type := _, pos := _, after := _, guard := _ }) (v := undef) rfl (by kernel_rfl) (by kernel_rfl) (by kernel_rfl) (fun _ _ _ h => h) (Or.inr ⟨by rfl, rfl⟩) (by assumption) ?_
          (try simp only [Act.put, List.setIfInBounds_toArray, List.set_cons_zero, List.set_cons_succ])
          refine anyH_at #[true, true, true, true, true, true, true, true, true, false, false, true, true, true, false, true, true, false, false, false] (by kernel_rfl) ?_
          refine wpAnyH_ready (rs := [9]) (by kernel_rfl) (by simp) ?_
          refine AllReadyH.cons (o := { dst := some 42, op := _, type := _, pos := _, after := _, guard := _ }) rfl (fun Kk hKk => ?_) AllReadyH.nil
          go_simp
          refine hKk.out _ _ ?_ (fun hHeld => ?_)
          · (try dsimp only)
            exact hHeld
          clear hKk Kk
          (try simp only [List.setIfInBounds_toArray, List.set_cons_zero, List.set_cons_succ])
          refine anyH_at #[true, true, true, true, true, true, true, true, true, true, false, true, true, true, false, true, true, false, false, false] (by kernel_rfl) ?_
          refine wpAnyH_ready (rs := [10]) (by kernel_rfl) (by simp) ?_
          refine AllReadyH.cons (o := { dst := some 43, op := _, type := _, pos := _, after := _, guard := _ }) rfl (fun Kk hKk => ?_) AllReadyH.nil
          go_simp
          refine hKk.out _ _ ?_ (fun hHeld => ?_)
          · (try dsimp only)
            exact hHeld
          clear hKk Kk
          (try simp only [List.setIfInBounds_toArray, List.set_cons_zero, List.set_cons_succ])
          refine anyH_at #[true, true, true, true, true, true, true, true, true, true, true, true, true, true, false, true, true, false, false, false] (by kernel_rfl) ?_
          refine wpAnyH_ready (rs := [14]) (by kernel_rfl) (by simp) ?_
          refine AllReadyH.cons (o := { dst := some 47, op := _, type := _, pos := _, after := _, guard := _ }) rfl (fun Kk hKk => ?_) AllReadyH.nil
          go_simp
          refine hKk.out _ _ ?_ (fun hHeld => ?_)
          · (try dsimp only)
            exact hHeld
          clear hKk Kk
          (try simp only [List.setIfInBounds_toArray, List.set_cons_zero, List.set_cons_succ])
          refine anyH_at #[true, true, true, true, true, true, true, true, true, true, true, true, true, true, true, true, true, false, false, false] (by kernel_rfl) ?_
          refine wpAnyH_ready (rs := [17]) (by kernel_rfl) (by simp) ?_
          refine AllReadyH.cons (o := { dst := some 50, op := _, type := _, pos := _, after := _, guard := _ }) rfl (fun Kk hKk => ?_) AllReadyH.nil
          go_simp
          refine hKk.out _ _ ?_ (fun hHeld => ?_)
          · (try dsimp only)
            exact hHeld
          clear hKk Kk
          (try simp only [List.setIfInBounds_toArray, List.set_cons_zero, List.set_cons_succ])
          refine anyH_at #[true, true, true, true, true, true, true, true, true, true, true, true, true, true, true, true, true, true, false, false] (by kernel_rfl) ?_
          refine wpAnyH_take (i := 18) (oi := { dst := some 51, op := _, type := _, pos := _, after := _, guard := _ }) (v := undef) rfl (by kernel_rfl) (by kernel_rfl) (by kernel_rfl) (fun _ _ _ h => h) (Or.inr ⟨by rfl, rfl⟩) (by assumption) ?_
          (try simp only [Act.put, List.setIfInBounds_toArray, List.set_cons_zero, List.set_cons_succ])
          refine anyH_at #[true, true, true, true, true, true, true, true, true, true, true, true, true, true, true, true, true, true, true, false] (by kernel_rfl) ?_
          refine wpAnyH_take (i := 19) (oi := { dst := some 52, op := _, type := _, pos := _, after := _, guard := _ }) (v := ?vv19r8) rfl (by kernel_rfl) (by kernel_rfl) (by kernel_rfl) (fun _ _ _ h => h) (Or.inl ⟨by rfl, ?hy19r8⟩) (by assumption) ?rest19r8
          case hy19r8 => ((intro w hSw; (try dsimp only at hSw); go_simp) <;> with_reducible rfl)
          case rest19r8 =>
            (try simp only [Act.put, List.setIfInBounds_toArray, List.set_cons_zero, List.set_cons_succ])
            refine anyH_at #[true, true, true, true, true, true, true, true, true, true, true, true, true, true, true, true, true, true, true, true] (by kernel_rfl) ?_
            refine wpAnyH_done (by kernel_rfl) ?_ _
            clear hHeld
            go_wp2_with fail
            have HB := hide (unhide HB).drew
            have HA := hide ((unhide HA).below ((Below.refl _ _).drew))
            have HP := hide ((unhide HP).below ((Below.refl _ _).drew))
            refine wp_region_held_drew (S := fun w' => (w'.cell? ⟨W.heap.size, 0, none⟩ = some (.bool n) ∧ w'.cell? ⟨W.heap.size, 1, none⟩ = some (.int .u64 h) ∧ w'.cell? ⟨W.heap.size, 2, none⟩ = some (.int .u64 l) ∧ w'.cell? ⟨W.heap.size, 3, none⟩ = some (.int .i64 X) ∧ w'.cell? ⟨W.heap.size, 4, none⟩ = some (.bool m)) ∧ (w'.cell? ⟨w2.heap.size, 0, none⟩ = some (.bool pn) ∧ w'.cell? ⟨w2.heap.size, 1, none⟩ = some (.int .i64 K) ∧ w'.cell? ⟨w2.heap.size, 2, none⟩ = some (.int .i64 E) ∧ w'.cell? ⟨w2.heap.size, 3, none⟩ = some (.int .u64 S))) (by kernel_rfl) ?_ (fun hHeld => ?_)
            · (try dsimp only)
              exact ⟨unhide HA, unhide HP⟩
            refine anyH_at #[false, false, false, false, false, false, false, false, false, false, false, false, false, false] (by kernel_rfl) ?_
            refine wpAnyH_take (i := 0) (oi := { dst := some 53, op := _, type := _, pos := _, after := _, guard := _ }) (v := ?vv0r10) rfl (by kernel_rfl) (by kernel_rfl) (by kernel_rfl) (fun _ _ _ h => h) (Or.inl ⟨by rfl, ?hy0r10⟩) (by assumption) ?rest0r10
            case hy0r10 => ((intro w hSw; (try dsimp only at hSw); go_simp) <;> with_reducible rfl)
            case rest0r10 =>
              (try simp only [Act.put, List.setIfInBounds_toArray, List.set_cons_zero, List.set_cons_succ])
              refine anyH_at #[true, false, false, false, false, false, false, false, false, false, false, false, false, false] (by kernel_rfl) ?_
              refine wpAnyH_take (i := 1) (oi := { dst := some 54, op := _, type := _, pos := _, after := _, guard := _ }) (v := ?vv1r10) rfl (by kernel_rfl) (by kernel_rfl) (by kernel_rfl) (fun _ _ _ h => h) (Or.inl ⟨by rfl, ?hy1r10⟩) (by assumption) ?rest1r10
              case hy1r10 => ((intro w hSw; (try dsimp only at hSw); go_simp) <;> with_reducible rfl)
              case rest1r10 =>
                (try simp only [Act.put, List.setIfInBounds_toArray, List.set_cons_zero, List.set_cons_succ])
                refine anyH_at #[true, true, false, false, false, false, false, false, false, false, false, false, false, false] (by kernel_rfl) ?_
                refine wpAnyH_take (i := 2) (oi := { dst := some 55, op := _, type := _, pos := _, after := _, guard := _ }) (v := ?vv2r10) rfl (by kernel_rfl) (by kernel_rfl) (by kernel_rfl) (fun _ _ _ h => h) (Or.inl ⟨by rfl, ?hy2r10⟩) (by assumption) ?rest2r10
                case hy2r10 => ((intro w hSw; (try dsimp only at hSw); go_simp) <;> with_reducible rfl)
                case rest2r10 =>
                  (try simp only [Act.put, List.setIfInBounds_toArray, List.set_cons_zero, List.set_cons_succ])
                  refine anyH_at #[true, true, true, false, false, false, false, false, false, false, false, false, false, false] (by kernel_rfl) ?_
                  refine wpAnyH_take (i := 3) (oi := { dst := some 56, op := _, type := _, pos := _, after := _, guard := _ }) (v := ?vv3r10) rfl (by kernel_rfl) (by kernel_rfl) (by kernel_rfl) (fun _ _ _ h => h) (Or.inl ⟨by rfl, ?hy3r10⟩) (by assumption) ?rest3r10
                  case hy3r10 => ((intro w hSw; (try dsimp only at hSw); go_simp) <;> with_reducible rfl)
                  case rest3r10 =>
                    (try simp only [Act.put, List.setIfInBounds_toArray, List.set_cons_zero, List.set_cons_succ])
                    refine anyH_at #[true, true, true, true, false, false, false, false, false, false, false, false, false, false] (by kernel_rfl) ?_
                    refine wpAnyH_take (i := 4) (oi := { dst := some 57, op := _, type := _, pos := _, after := _, guard := _ }) (v := ?vv4r10) rfl (by kernel_rfl) (by kernel_rfl) (by kernel_rfl) (fun _ _ _ h => h) (Or.inl ⟨by rfl, ?hy4r10⟩) (by assumption) ?rest4r10
                    case hy4r10 => ((intro w hSw; (try dsimp only at hSw); go_simp) <;> with_reducible rfl)
                    case rest4r10 =>
                      (try simp only [Act.put, List.setIfInBounds_toArray, List.set_cons_zero, List.set_cons_succ])
                      refine anyH_at #[true, true, true, true, true, false, false, false, false, false, false, false, false, false] (by kernel_rfl) ?_
                      refine wpAnyH_take (i := 6) (oi := { dst := some 59, op := _, type := _, pos := _, after := _, guard := _ }) (v := ?vv6r10) rfl (by kernel_rfl) (by kernel_rfl) (by kernel_rfl) (fun _ _ _ h => h) (Or.inl ⟨by rfl, ?hy6r10⟩) (by assumption) ?rest6r10
                      case hy6r10 => ((intro w hSw; (try dsimp only at hSw); go_simp) <;> with_reducible rfl)
                      case rest6r10 =>
                        (try simp only [Act.put, List.setIfInBounds_toArray, List.set_cons_zero, List.set_cons_succ])
                        refine anyH_at #[true, true, true, true, true, false, true, false, false, false, false, false, false, false] (by kernel_rfl) ?_
                        refine wpAnyH_take (i := 7) (oi := { dst := some 60, op := _, type := _, pos := _, after := _, guard := _ }) (v := ?vv7r10) rfl (by kernel_rfl) (by kernel_rfl) (by kernel_rfl) (fun _ _ _ h => h) (Or.inl ⟨by rfl, ?hy7r10⟩) (by assumption) ?rest7r10
                        case hy7r10 => ((intro w hSw; (try dsimp only at hSw); go_simp) <;> with_reducible rfl)
                        case rest7r10 =>
                          (try simp only [Act.put, List.setIfInBounds_toArray, List.set_cons_zero, List.set_cons_succ])
                          refine anyH_at #[true, true, true, true, true, false, true, true, false, false, false, false, false, false] (by kernel_rfl) ?_
                          refine wpAnyH_take (i := 8) (oi := { dst := some 61, op := _, type := _, pos := _, after := _, guard := _ }) (v := ?vv8r10) rfl (by kernel_rfl) (by kernel_rfl) (by kernel_rfl) (fun _ _ _ h => h) (Or.inl ⟨by rfl, ?hy8r10⟩) (by assumption) ?rest8r10
                          case hy8r10 => ((intro w hSw; (try dsimp only at hSw); go_simp) <;> with_reducible rfl)
                          case rest8r10 =>
                            (try simp only [Act.put, List.setIfInBounds_toArray, List.set_cons_zero, List.set_cons_succ])
                            refine anyH_at #[true, true, true, true, true, false, true, true, true, false, false, false, false, false] (by kernel_rfl) ?_
                            refine wpAnyH_take (i := 9) (oi := { dst := some 62, op := _, type := _, pos := _, after := _, guard := _ }) (v := ?vv9r10) rfl (by kernel_rfl) (by kernel_rfl) (by kernel_rfl) (fun _ _ _ h => h) (Or.inl ⟨by rfl, ?hy9r10⟩) (by assumption) ?rest9r10
                            case hy9r10 => ((intro w hSw; (try dsimp only at hSw); go_simp) <;> with_reducible rfl)
                            case rest9r10 =>
                              (try simp only [Act.put, List.setIfInBounds_toArray, List.set_cons_zero, List.set_cons_succ])
                              refine anyH_at #[true, true, true, true, true, false, true, true, true, true, false, false, false, false] (by kernel_rfl) ?_
                              refine wpAnyH_take (i := 10) (oi := { dst := some 63, op := _, type := _, pos := _, after := _, guard := _ }) (v := ?vv10r10) rfl (by kernel_rfl) (by kernel_rfl) (by kernel_rfl) (fun _ _ _ h => h) (Or.inl ⟨by rfl, ?hy10r10⟩) (by assumption) ?rest10r10
                              case hy10r10 => ((intro w hSw; (try dsimp only at hSw); go_simp) <;> with_reducible rfl)
                              case rest10r10 =>
                                (try simp only [Act.put, List.setIfInBounds_toArray, List.set_cons_zero, List.set_cons_succ])
                                refine anyH_at #[true, true, true, true, true, false, true, true, true, true, true, false, false, false] (by kernel_rfl) ?_
                                refine wpAnyH_ready (rs := [5]) (by kernel_rfl) (by simp) ?_
                                refine AllReadyH.cons (o := { dst := some 58, op := _, type := _, pos := _, after := _, guard := _ }) rfl (fun Kk hKk => ?_) AllReadyH.nil
                                go_simp
                                refine (unhide HPa _).mono ?_
                                rintro _ w7 ⟨rfl, hbl⟩
                                have HB := hide (bthen (unhide HB) hbl)
                                have HA := hide ((unhide HA).below hbl)
                                have HP := hide ((unhide HP).below hbl)
                                clear hbl
                                (try go_wp2_with fail)
                                refine hKk.out _ _ ?_ (fun hHeld => ?_)
                                · (try dsimp only)
                                  exact ⟨unhide HA, unhide HP⟩
                                clear hKk Kk
                                (try simp only [List.setIfInBounds_toArray, List.set_cons_zero, List.set_cons_succ])
                                refine anyH_at #[true, true, true, true, true, true, true, true, true, true, true, false, false, false] (by kernel_rfl) ?_
                                refine wpAnyH_ready (rs := [11]) (by kernel_rfl) (by simp) ?_
                                refine AllReadyH.cons (o := { dst := some 64, op := _, type := _, pos := _, after := _, guard := _ }) rfl (fun Kk hKk => ?_) AllReadyH.nil
                                go_simp
                                refine (unhide HPb _).mono ?_
                                rintro _ w8 ⟨rfl, hbl⟩
                                have HB := hide (bthen (unhide HB) hbl)
                                have HA := hide ((unhide HA).below hbl)
                                have HP := hide ((unhide HP).below hbl)
                                clear hbl
                                (try go_wp2_with fail)
                                refine hKk.out _ _ ?_ (fun hHeld => ?_)
                                · (try dsimp only)
                                  exact ⟨unhide HA, unhide HP⟩
                                clear hKk Kk
                                (try simp only [List.setIfInBounds_toArray, List.set_cons_zero, List.set_cons_succ])
                                refine anyH_at #[true, true, true, true, true, true, true, true, true, true, true, true, false, false] (by kernel_rfl) ?_
                                refine wpAnyH_take (i := 12) (oi := { dst := some 8, op := _, type := _, pos := _, after := _, guard := _ }) (v := ?vv12r10) rfl (by kernel_rfl) (by kernel_rfl) (by kernel_rfl) (fun _ _ _ h => h) (Or.inl ⟨by rfl, ?hy12r10⟩) (by assumption) ?rest12r10
                                case hy12r10 => ((intro w hSw; (try dsimp only at hSw); go_simp) <;> with_reducible rfl)
                                case rest12r10 =>
                                  (try simp only [Act.put, List.setIfInBounds_toArray, List.set_cons_zero, List.set_cons_succ])
                                  refine anyH_at #[true, true, true, true, true, true, true, true, true, true, true, true, true, false] (by kernel_rfl) ?_
                                  refine wpAnyH_take (i := 13) (oi := { dst := some 9, op := _, type := _, pos := _, after := _, guard := _ }) (v := ?vv13r10) rfl (by kernel_rfl) (by kernel_rfl) (by kernel_rfl) (fun _ _ _ h => h) (Or.inl ⟨by rfl, ?hy13r10⟩) (by assumption) ?rest13r10
                                  case hy13r10 => ((intro w hSw; (try dsimp only at hSw); go_simp) <;> with_reducible rfl)
                                  case rest13r10 =>
                                    (try simp only [Act.put, List.setIfInBounds_toArray, List.set_cons_zero, List.set_cons_succ])
                                    refine anyH_at #[true, true, true, true, true, true, true, true, true, true, true, true, true, true] (by kernel_rfl) ?_
                                    refine wpAnyH_done (by kernel_rfl) ?_ _
                                    clear hHeld
                                    obtain ⟨a0, a1, a2, a3, a4⟩ := unhide HA
                                    go_wp2_with fail
                                    clear a0 a1 a2 a3 a4
                                    refine (unhide HI _).mono ?_
                                    rintro _ w9 ⟨rfl, hbl⟩
                                    have HB := hide (bthen (unhide HB) hbl)
                                    have HA := hide ((unhide HA).below hbl)
                                    have HP := hide ((unhide HP).below hbl)
                                    clear hbl
                                    obtain ⟨a0, a1, a2, a3, a4⟩ := unhide HA
                                    go_wp2_with fail
                                    clear a0 a1 a2 a3 a4
                                    refine (unhide HD _).mono ?_
                                    rintro _ w10 ⟨rfl, hbl⟩
                                    have HB := hide (bthen (unhide HB) hbl)
                                    have HA := hide ((unhide HA).below hbl)
                                    have HP := hide ((unhide HP).below hbl)
                                    clear hbl
                                    go_wp2_with fail
                                    refine (unhide HZ _).mono ?_
                                    rintro _ w11 ⟨rfl, hbl⟩
                                    have HB := hide (bthen (unhide HB) hbl)
                                    clear hbl
                                    go_wp2_with fail
                                    go_ret
                                    exact ⟨rfl, unhide HB⟩
set_option maxRecDepth 100000 in
set_option maxHeartbeats 4000000 in
theorem keeps_fin32 {w x h l X K E S A B I Z D cv h1 l1 h2 l2 : Int} {n m pn : Bool} (W : World) (g1 : (w != 32) = false) (HO : Hid (∀ W, Calls Try.prog 16 #[.int .i64 w, .int .u64 x] W fun r W' => r = .returned (.agg #[.bool pn, .int .i64 K, .int .i64 E, .int .u64 S]) ∧ Below W.heap.size W W'))
    (HPa : Hid (∀ W, Calls Try.prog 8 #[.int .i64 w, .bool false, .agg #[.int .u64 h, .int .u64 l], .int .i64 X, .bool false] W fun r W' => r = .returned (.int .u64 A) ∧ Below W.heap.size W W')) (HPb : Hid (∀ W, Calls Try.prog 8 #[.int .i64 w, .bool false, .agg #[.int .u64 h, .int .u64 l], .int .i64 X, .bool true] W fun r W' => r = .returned (.int .u64 B) ∧ Below W.heap.size W W'))
    (HI : Hid (∀ W, Calls Try.prog 20 #[.int .i64 w, .bool false] W fun r W' => r = .returned (.int .u64 I) ∧ Below W.heap.size W W')) (HD : Hid (∀ W, Calls Try.prog 8 #[.int .i64 w, .bool true, .agg #[.int .u64 h, .int .u64 l], .int .i64 X, .bool true] W fun r W' => r = .returned (.int .u64 D) ∧ Below W.heap.size W W')) (HZ : Hid (∀ W, Calls Try.prog 21 #[.int .i64 w, .bool true] W fun r W' => r = .returned (.int .u64 Z) ∧ Below W.heap.size W W'))
    (kab : A ≤ B) (kbi : B ≤ I) (ko : bits .or .u64 B Z = D) (k3 : (K != 3) = true) (k1 : (K == 1) = true) (HN : Hid (∀ W, Calls Try.prog 12 #[.int .i64 w, .agg #[.bool pn, .int .i64 K, .int .i64 E, .int .u64 S]] W fun r W' => r = .returned (.int .u64 cv) ∧ Below W.heap.size W W')) (HC : Hid (∀ W, Calls Try.prog 17 #[.int .i64 w, .int .u64 x] W fun r W' => r = .returned (.int .u64 cv) ∧ Below W.heap.size W W')) (HS : Hid (∀ W, Calls Try.prog 19 #[.int .u64 S] W fun r W' => r = .returned (.agg #[.int .u64 h1, .int .u64 l1]) ∧ Below W.heap.size W W')) (HL : Hid (∀ W, Calls Try.prog 18 #[.agg #[.int .u64 h1, .int .u64 l1], .int .i64 60] W fun r W' => r = .returned (.agg #[.int .u64 h2, .int .u64 l2]) ∧ Below W.heap.size W W')) (ke : IntKind.i64.wrap (E - 60) = E - 60)
    (HPc : Hid (∀ W, Calls Try.prog 8 #[.int .i64 w, .bool pn, .agg #[.int .u64 h2, .int .u64 l2], .int .i64 (E - 60), .bool false] W fun r W' => r = .returned (.int .u64 cv) ∧ Below W.heap.size W W')) :
    Calls Try.prog 5 #[.int .i64 w, .int .u64 x, .agg #[.bool n, .int .u64 h, .int .u64 l, .int .i64 X, .bool m]] W fun r W' => r = .returned (.bool true) ∧ Below W.heap.size W W' := by
  go_enter Try.func5, Try.ntmps5
  go_wp2_with fail
  refine (awake_any _).mono ?_
  rintro _ w1 ⟨rfl, hb⟩
  have HA := hide ((at5_new W (.bool n) (.int .u64 h) (.int .u64 l) (.int .i64 X) (.bool m) 26).below hb)
  have HB := hide (bthen (below1 _ _) hb)
  clear hb
  go_wp2_with fail
  refine (unhide HO _).mono ?_
  rintro _ w2 ⟨rfl, hbl⟩
  have HA := hide (((unhide HA).below hbl).below (below1 _ (.cells #[.bool pn, .int .i64 K, .int .i64 E, .int .u64 S] 33)))
  have HP := hide (at4_new w2 (.bool pn) (.int .i64 K) (.int .i64 E) (.int .u64 S) 33)
  have HB := hide (balloc (bthen (unhide HB) hbl) (.cells #[.bool pn, .int .i64 K, .int .i64 E, .int .u64 S] 33))
  clear hbl
  go_wp2_with fail
  refine (unhide HN _).mono ?_
  rintro _ w31 ⟨rfl, hbl⟩
  have HB := hide (bthen (unhide HB) hbl)
  have HA := hide ((unhide HA).below hbl)
  have HP := hide ((unhide HP).below hbl)
  clear hbl
  go_wp2_with fail
  refine (unhide HC _).mono ?_
  rintro _ w32 ⟨rfl, hbl⟩
  have HB := hide (bthen (unhide HB) hbl)
  have HA := hide ((unhide HA).below hbl)
  have HP := hide ((unhide HP).below hbl)
  clear hbl
  obtain ⟨b0, b1, b2, b3⟩ := unhide HP
  go_wp2_with fail
  clear b0 b1 b2 b3
  have HB := hide (unhide HB).drew
  have HA := hide ((unhide HA).below ((Below.refl _ _).drew))
  have HP := hide ((unhide HP).below ((Below.refl _ _).drew))
  refine wp_region_held_drew (S := fun w' => (w'.cell? ⟨W.heap.size, 0, none⟩ = some (.bool n) ∧ w'.cell? ⟨W.heap.size, 1, none⟩ = some (.int .u64 h) ∧ w'.cell? ⟨W.heap.size, 2, none⟩ = some (.int .u64 l) ∧ w'.cell? ⟨W.heap.size, 3, none⟩ = some (.int .i64 X) ∧ w'.cell? ⟨W.heap.size, 4, none⟩ = some (.bool m)) ∧ (w'.cell? ⟨w2.heap.size, 0, none⟩ = some (.bool pn) ∧ w'.cell? ⟨w2.heap.size, 1, none⟩ = some (.int .i64 K) ∧ w'.cell? ⟨w2.heap.size, 2, none⟩ = some (.int .i64 E) ∧ w'.cell? ⟨w2.heap.size, 3, none⟩ = some (.int .u64 S))) (by kernel_rfl) ?_ (fun hHeld => ?_)
  · (try dsimp only)
    exact ⟨unhide HA, unhide HP⟩
  refine anyH_at #[false, false, false, false, false, false, false, false, false, false, false, false, false, false, false, false, false, false, false, false] (by kernel_rfl) ?_
  refine wpAnyH_take (i := 0) (oi := { dst := some 33, op := _, type := _, pos := _, after := _, guard := _ }) (v := ?vv0r8) rfl (by kernel_rfl) (by kernel_rfl) (by kernel_rfl) (fun _ _ _ h => h) (Or.inl ⟨by rfl, ?hy0r8⟩) (by assumption) ?rest0r8
  case hy0r8 => ((intro w hSw; (try dsimp only at hSw); go_simp) <;> with_reducible rfl)
  case rest0r8 =>
    (try simp only [Act.put, List.setIfInBounds_toArray, List.set_cons_zero, List.set_cons_succ])
    refine anyH_at #[true, false, false, false, false, false, false, false, false, false, false, false, false, false, false, false, false, false, false, false] (by kernel_rfl) ?_
    refine wpAnyH_take (i := 1) (oi := { dst := some 34, op := _, type := _, pos := _, after := _, guard := _ }) (v := ?vv1r8) rfl (by kernel_rfl) (by kernel_rfl) (by kernel_rfl) (fun _ _ _ h => h) (Or.inl ⟨by rfl, ?hy1r8⟩) (by assumption) ?rest1r8
    case hy1r8 => ((intro w hSw; (try dsimp only at hSw); go_simp) <;> with_reducible rfl)
    case rest1r8 =>
      (try simp only [Act.put, List.setIfInBounds_toArray, List.set_cons_zero, List.set_cons_succ])
      refine anyH_at #[true, true, false, false, false, false, false, false, false, false, false, false, false, false, false, false, false, false, false, false] (by kernel_rfl) ?_
      refine wpAnyH_take (i := 2) (oi := { dst := some 35, op := _, type := _, pos := _, after := _, guard := _ }) (v := ?vv2r8) rfl (by kernel_rfl) (by kernel_rfl) (by kernel_rfl) (fun _ _ _ h => h) (Or.inl ⟨by rfl, ?hy2r8⟩) (by assumption) ?rest2r8
      case hy2r8 => ((intro w hSw; (try dsimp only at hSw); go_simp) <;> with_reducible rfl)
      case rest2r8 =>
        (try simp only [Act.put, List.setIfInBounds_toArray, List.set_cons_zero, List.set_cons_succ])
        refine anyH_at #[true, true, true, false, false, false, false, false, false, false, false, false, false, false, false, false, false, false, false, false] (by kernel_rfl) ?_
        refine wpAnyH_take (i := 3) (oi := { dst := some 36, op := _, type := _, pos := _, after := _, guard := _ }) (v := ?vv3r8) rfl (by kernel_rfl) (by kernel_rfl) (by kernel_rfl) (fun _ _ _ h => h) (Or.inl ⟨by rfl, ?hy3r8⟩) (by assumption) ?rest3r8
        case hy3r8 => ((intro w hSw; (try dsimp only at hSw); go_simp) <;> with_reducible rfl)
        case rest3r8 =>
          (try simp only [Act.put, List.setIfInBounds_toArray, List.set_cons_zero, List.set_cons_succ])
          refine anyH_at #[true, true, true, true, false, false, false, false, false, false, false, false, false, false, false, false, false, false, false, false] (by kernel_rfl) ?_
          refine wpAnyH_take (i := 4) (oi := { dst := some 37, op := _, type := _, pos := _, after := _, guard := _ }) (v := ?vv4r8) rfl (by kernel_rfl) (by kernel_rfl) (by kernel_rfl) (fun _ _ _ h => h) (Or.inl ⟨by rfl, ?hy4r8⟩) (by assumption) ?rest4r8
          case hy4r8 => ((intro w hSw; (try dsimp only at hSw); go_simp) <;> with_reducible rfl)
          case rest4r8 =>
            (try simp only [Act.put, List.setIfInBounds_toArray, List.set_cons_zero, List.set_cons_succ])
            refine anyH_at #[true, true, true, true, true, false, false, false, false, false, false, false, false, false, false, false, false, false, false, false] (by kernel_rfl) ?_
            refine wpAnyH_take (i := 5) (oi := { dst := some 38, op := _, type := _, pos := _, after := _, guard := _ }) (v := ?vv5r8) rfl (by kernel_rfl) (by kernel_rfl) (by kernel_rfl) (fun _ _ _ h => h) (Or.inl ⟨by rfl, ?hy5r8⟩) (by assumption) ?rest5r8
            case hy5r8 => ((intro w hSw; (try dsimp only at hSw); go_simp) <;> with_reducible rfl)
            case rest5r8 =>
              (try simp only [Act.put, List.setIfInBounds_toArray, List.set_cons_zero, List.set_cons_succ])
              refine anyH_at #[true, true, true, true, true, true, false, false, false, false, false, false, false, false, false, false, false, false, false, false] (by kernel_rfl) ?_
              refine wpAnyH_take (i := 6) (oi := { dst := some 39, op := _, type := _, pos := _, after := _, guard := _ }) (v := ?vv6r8) rfl (by kernel_rfl) (by kernel_rfl) (by kernel_rfl) (fun _ _ _ h => h) (Or.inl ⟨by rfl, ?hy6r8⟩) (by assumption) ?rest6r8
              case hy6r8 => ((intro w hSw; (try dsimp only at hSw); go_simp) <;> with_reducible rfl)
              case rest6r8 =>
                (try simp only [Act.put, List.setIfInBounds_toArray, List.set_cons_zero, List.set_cons_succ])
                refine anyH_at #[true, true, true, true, true, true, true, false, false, false, false, false, false, false, false, false, false, false, false, false] (by kernel_rfl) ?_
                refine wpAnyH_take (i := 7) (oi := { dst := some 40, op := _, type := _, pos := _, after := _, guard := _ }) (v := ?vv7r8) rfl (by kernel_rfl) (by kernel_rfl) (by kernel_rfl) (fun _ _ _ h => h) (Or.inl ⟨by rfl, ?hy7r8⟩) (by assumption) ?rest7r8
                case hy7r8 => ((intro w hSw; (try dsimp only at hSw); go_simp) <;> with_reducible rfl)
                case rest7r8 =>
                  (try simp only [Act.put, List.setIfInBounds_toArray, List.set_cons_zero, List.set_cons_succ])
                  refine anyH_at #[true, true, true, true, true, true, true, true, false, false, false, false, false, false, false, false, false, false, false, false] (by kernel_rfl) ?_
                  refine wpAnyH_take (i := 8) (oi := { dst := some 41, op := _, type := _, pos := _, after := _, guard := _ }) (v := ?vv8r8) rfl (by kernel_rfl) (by kernel_rfl) (by kernel_rfl) (fun _ _ _ h => h) (Or.inl ⟨by rfl, ?hy8r8⟩) (by assumption) ?rest8r8
                  case hy8r8 => ((intro w hSw; (try dsimp only at hSw); go_simp) <;> with_reducible rfl)
                  case rest8r8 =>
                    (try simp only [Act.put, List.setIfInBounds_toArray, List.set_cons_zero, List.set_cons_succ])
                    refine anyH_at #[true, true, true, true, true, true, true, true, true, false, false, false, false, false, false, false, false, false, false, false] (by kernel_rfl) ?_
                    refine wpAnyH_take (i := 11) (oi := { dst := some 44, op := _, type := _, pos := _, after := _, guard := _ }) (v := ?vv11r8) rfl (by kernel_rfl) (by kernel_rfl) (by kernel_rfl) (fun _ _ _ h => h) (Or.inl ⟨by rfl, ?hy11r8⟩) (by assumption) ?rest11r8
                    case hy11r8 => ((intro w hSw; (try dsimp only at hSw); go_simp) <;> with_reducible rfl)
                    case rest11r8 =>
                      (try simp only [Act.put, List.setIfInBounds_toArray, List.set_cons_zero, List.set_cons_succ])
                      refine anyH_at #[true, true, true, true, true, true, true, true, true, false, false, true, false, false, false, false, false, false, false, false] (by kernel_rfl) ?_
                      refine wpAnyH_take (i := 12) (oi := { dst := some 45, op := _, type := _, pos := _, after := _, guard := _ }) (v := ?vv12r8) rfl (by kernel_rfl) (by kernel_rfl) (by kernel_rfl) (fun _ _ _ h => h) (Or.inl ⟨by rfl, ?hy12r8⟩) (by assumption) ?rest12r8
                      case hy12r8 => ((intro w hSw; (try dsimp only at hSw); go_simp) <;> with_reducible rfl)
                      case rest12r8 =>
                        (try simp only [Act.put, List.setIfInBounds_toArray, List.set_cons_zero, List.set_cons_succ])
                        refine anyH_at #[true, true, true, true, true, true, true, true, true, false, false, true, true, false, false, false, false, false, false, false] (by kernel_rfl) ?_
                        refine wpAnyH_take (i := 13) (oi := { dst := some 46, op := _, type := _, pos := _, after := _, guard := _ }) (v := ?vv13r8) rfl (by kernel_rfl) (by kernel_rfl) (by kernel_rfl) (fun _ _ _ h => h) (Or.inl ⟨by rfl, ?hy13r8⟩) (by assumption) ?rest13r8
                        case hy13r8 => ((intro w hSw; (try dsimp only at hSw); go_simp) <;> with_reducible rfl)
                        case rest13r8 =>
                          (try simp only [Act.put, List.setIfInBounds_toArray, List.set_cons_zero, List.set_cons_succ])
                          refine anyH_at #[true, true, true, true, true, true, true, true, true, false, false, true, true, true, false, false, false, false, false, false] (by kernel_rfl) ?_
                          refine wpAnyH_take (i := 15) (oi := { dst := some 48, op := _, type := _, pos := _, after := _, guard := _ }) (v := ?vv15r8) rfl (by kernel_rfl) (by kernel_rfl) (by kernel_rfl) (fun _ _ _ h => h) (Or.inl ⟨by rfl, ?hy15r8⟩) (by assumption) ?rest15r8
                          case hy15r8 => ((intro w hSw; (try dsimp only at hSw); go_simp) <;> with_reducible rfl)
                          case rest15r8 =>
                            (try simp only [Act.put, List.setIfInBounds_toArray, List.set_cons_zero, List.set_cons_succ])
                            refine anyH_at #[true, true, true, true, true, true, true, true, true, false, false, true, true, true, false, true, false, false, false, false] (by kernel_rfl) ?_
                            refine wpAnyH_take (i := 16) (oi := { dst := some 49, op := _, type := _, pos := _, after := _, guard := _ }) (v := ?vv16r8) rfl (by kernel_rfl) (by kernel_rfl) (by kernel_rfl) (fun _ _ _ h => h) (Or.inl ⟨by rfl, ?hy16r8⟩) (by assumption) ?rest16r8
                            case hy16r8 => ((intro w hSw; (try dsimp only at hSw); go_simp) <;> with_reducible rfl)
                            case rest16r8 =>
                              (try simp only [Act.put, List.setIfInBounds_toArray, List.set_cons_zero, List.set_cons_succ])
                              refine anyH_at #[true, true, true, true, true, true, true, true, true, false, false, true, true, true, false, true, true, false, false, false] (by kernel_rfl) ?_
                              refine wpAnyH_ready (rs := [9]) (by kernel_rfl) (by simp) ?_
                              refine AllReadyH.cons (o := { dst := some 42, op := _, type := _, pos := _, after := _, guard := _ }) rfl (fun Kk hKk => ?_) AllReadyH.nil
                              go_simp
                              refine (unhide HS _).mono ?_
                              rintro _ w4 ⟨rfl, hbl⟩
                              have HB := hide (bthen (unhide HB) hbl)
                              have HA := hide ((unhide HA).below hbl)
                              have HP := hide ((unhide HP).below hbl)
                              clear hbl
                              (try go_wp2_with fail)
                              refine hKk.out _ _ ?_ (fun hHeld => ?_)
                              · (try dsimp only)
                                exact ⟨unhide HA, unhide HP⟩
                              clear hKk Kk
                              (try simp only [List.setIfInBounds_toArray, List.set_cons_zero, List.set_cons_succ])
                              refine anyH_at #[true, true, true, true, true, true, true, true, true, true, false, true, true, true, false, true, true, false, false, false] (by kernel_rfl) ?_
                              refine wpAnyH_ready (rs := [10]) (by kernel_rfl) (by simp) ?_
                              refine AllReadyH.cons (o := { dst := some 43, op := _, type := _, pos := _, after := _, guard := _ }) rfl (fun Kk hKk => ?_) AllReadyH.nil
                              go_simp
                              refine (unhide HL _).mono ?_
                              rintro _ w5 ⟨rfl, hbl⟩
                              have HB := hide (bthen (unhide HB) hbl)
                              have HA := hide ((unhide HA).below hbl)
                              have HP := hide ((unhide HP).below hbl)
                              clear hbl
                              (try go_wp2_with fail)
                              refine hKk.out _ _ ?_ (fun hHeld => ?_)
                              · (try dsimp only)
                                exact ⟨unhide HA, unhide HP⟩
                              clear hKk Kk
                              (try simp only [List.setIfInBounds_toArray, List.set_cons_zero, List.set_cons_succ])
                              refine anyH_at #[true, true, true, true, true, true, true, true, true, true, true, true, true, true, false, true, true, false, false, false] (by kernel_rfl) ?_
                              refine wpAnyH_ready (rs := [14]) (by kernel_rfl) (by simp) ?_
                              refine AllReadyH.cons (o := { dst := some 47, op := _, type := _, pos := _, after := _, guard := _ }) rfl (fun Kk hKk => ?_) AllReadyH.nil
                              go_simp
                              refine (unhide HPc _).mono ?_
                              rintro _ w6 ⟨rfl, hbl⟩
                              have HB := hide (bthen (unhide HB) hbl)
                              have HA := hide ((unhide HA).below hbl)
                              have HP := hide ((unhide HP).below hbl)
                              clear hbl
                              (try go_wp2_with fail)
                              refine hKk.out _ _ ?_ (fun hHeld => ?_)
                              · (try dsimp only)
                                exact ⟨unhide HA, unhide HP⟩
                              clear hKk Kk
                              (try simp only [List.setIfInBounds_toArray, List.set_cons_zero, List.set_cons_succ])
                              refine anyH_at #[true, true, true, true, true, true, true, true, true, true, true, true, true, true, true, true, true, false, false, false] (by kernel_rfl) ?_
                              refine wpAnyH_ready (rs := [17]) (by kernel_rfl) (by simp) ?_
                              refine AllReadyH.cons (o := { dst := some 50, op := _, type := _, pos := _, after := _, guard := _ }) rfl (fun Kk hKk => ?_) AllReadyH.nil
                              go_simp
                              refine (unhide HC _).mono ?_
                              rintro _ w66 ⟨rfl, hbl⟩
                              have HB := hide (bthen (unhide HB) hbl)
                              have HA := hide ((unhide HA).below hbl)
                              have HP := hide ((unhide HP).below hbl)
                              clear hbl
                              (try go_wp2_with fail)
                              refine hKk.out _ _ ?_ (fun hHeld => ?_)
                              · (try dsimp only)
                                exact ⟨unhide HA, unhide HP⟩
                              clear hKk Kk
                              (try simp only [List.setIfInBounds_toArray, List.set_cons_zero, List.set_cons_succ])
                              refine anyH_at #[true, true, true, true, true, true, true, true, true, true, true, true, true, true, true, true, true, true, false, false] (by kernel_rfl) ?_
                              refine wpAnyH_take (i := 18) (oi := { dst := some 51, op := _, type := _, pos := _, after := _, guard := _ }) (v := ?vv18r8) rfl (by kernel_rfl) (by kernel_rfl) (by kernel_rfl) (fun _ _ _ h => h) (Or.inl ⟨by rfl, ?hy18r8⟩) (by assumption) ?rest18r8
                              case hy18r8 => ((intro w hSw; (try dsimp only at hSw); go_simp) <;> with_reducible rfl)
                              case rest18r8 =>
                                (try simp only [Act.put, List.setIfInBounds_toArray, List.set_cons_zero, List.set_cons_succ])
                                refine anyH_at #[true, true, true, true, true, true, true, true, true, true, true, true, true, true, true, true, true, true, true, false] (by kernel_rfl) ?_
                                refine wpAnyH_take (i := 19) (oi := { dst := some 52, op := _, type := _, pos := _, after := _, guard := _ }) (v := ?vv19r8) rfl (by kernel_rfl) (by kernel_rfl) (by kernel_rfl) (fun _ _ _ h => h) (Or.inl ⟨by rfl, ?hy19r8⟩) (by assumption) ?rest19r8
                                case hy19r8 => ((intro w hSw; (try dsimp only at hSw); go_simp) <;> with_reducible rfl)
                                case rest19r8 =>
                                  (try simp only [Act.put, List.setIfInBounds_toArray, List.set_cons_zero, List.set_cons_succ])
                                  refine anyH_at #[true, true, true, true, true, true, true, true, true, true, true, true, true, true, true, true, true, true, true, true] (by kernel_rfl) ?_
                                  refine wpAnyH_done (by kernel_rfl) ?_ _
                                  clear hHeld
                                  go_wp2_with fail
                                  have HB := hide (unhide HB).drew
                                  have HA := hide ((unhide HA).below ((Below.refl _ _).drew))
                                  have HP := hide ((unhide HP).below ((Below.refl _ _).drew))
                                  refine wp_region_held_drew (S := fun w' => (w'.cell? ⟨W.heap.size, 0, none⟩ = some (.bool n) ∧ w'.cell? ⟨W.heap.size, 1, none⟩ = some (.int .u64 h) ∧ w'.cell? ⟨W.heap.size, 2, none⟩ = some (.int .u64 l) ∧ w'.cell? ⟨W.heap.size, 3, none⟩ = some (.int .i64 X) ∧ w'.cell? ⟨W.heap.size, 4, none⟩ = some (.bool m)) ∧ (w'.cell? ⟨w2.heap.size, 0, none⟩ = some (.bool pn) ∧ w'.cell? ⟨w2.heap.size, 1, none⟩ = some (.int .i64 K) ∧ w'.cell? ⟨w2.heap.size, 2, none⟩ = some (.int .i64 E) ∧ w'.cell? ⟨w2.heap.size, 3, none⟩ = some (.int .u64 S))) (by kernel_rfl) ?_ (fun hHeld => ?_)
                                  · (try dsimp only)
                                    exact ⟨unhide HA, unhide HP⟩
                                  refine anyH_at #[false, false, false, false, false, false, false, false, false, false, false, false, false, false] (by kernel_rfl) ?_
                                  refine wpAnyH_take (i := 0) (oi := { dst := some 53, op := _, type := _, pos := _, after := _, guard := _ }) (v := ?vv0r10) rfl (by kernel_rfl) (by kernel_rfl) (by kernel_rfl) (fun _ _ _ h => h) (Or.inl ⟨by rfl, ?hy0r10⟩) (by assumption) ?rest0r10
                                  case hy0r10 => ((intro w hSw; (try dsimp only at hSw); go_simp) <;> with_reducible rfl)
                                  case rest0r10 =>
                                    (try simp only [Act.put, List.setIfInBounds_toArray, List.set_cons_zero, List.set_cons_succ])
                                    refine anyH_at #[true, false, false, false, false, false, false, false, false, false, false, false, false, false] (by kernel_rfl) ?_
                                    refine wpAnyH_take (i := 1) (oi := { dst := some 54, op := _, type := _, pos := _, after := _, guard := _ }) (v := ?vv1r10) rfl (by kernel_rfl) (by kernel_rfl) (by kernel_rfl) (fun _ _ _ h => h) (Or.inl ⟨by rfl, ?hy1r10⟩) (by assumption) ?rest1r10
                                    case hy1r10 => ((intro w hSw; (try dsimp only at hSw); go_simp) <;> with_reducible rfl)
                                    case rest1r10 =>
                                      (try simp only [Act.put, List.setIfInBounds_toArray, List.set_cons_zero, List.set_cons_succ])
                                      refine anyH_at #[true, true, false, false, false, false, false, false, false, false, false, false, false, false] (by kernel_rfl) ?_
                                      refine wpAnyH_take (i := 2) (oi := { dst := some 55, op := _, type := _, pos := _, after := _, guard := _ }) (v := ?vv2r10) rfl (by kernel_rfl) (by kernel_rfl) (by kernel_rfl) (fun _ _ _ h => h) (Or.inl ⟨by rfl, ?hy2r10⟩) (by assumption) ?rest2r10
                                      case hy2r10 => ((intro w hSw; (try dsimp only at hSw); go_simp) <;> with_reducible rfl)
                                      case rest2r10 =>
                                        (try simp only [Act.put, List.setIfInBounds_toArray, List.set_cons_zero, List.set_cons_succ])
                                        refine anyH_at #[true, true, true, false, false, false, false, false, false, false, false, false, false, false] (by kernel_rfl) ?_
                                        refine wpAnyH_take (i := 3) (oi := { dst := some 56, op := _, type := _, pos := _, after := _, guard := _ }) (v := ?vv3r10) rfl (by kernel_rfl) (by kernel_rfl) (by kernel_rfl) (fun _ _ _ h => h) (Or.inl ⟨by rfl, ?hy3r10⟩) (by assumption) ?rest3r10
                                        case hy3r10 => ((intro w hSw; (try dsimp only at hSw); go_simp) <;> with_reducible rfl)
                                        case rest3r10 =>
                                          (try simp only [Act.put, List.setIfInBounds_toArray, List.set_cons_zero, List.set_cons_succ])
                                          refine anyH_at #[true, true, true, true, false, false, false, false, false, false, false, false, false, false] (by kernel_rfl) ?_
                                          refine wpAnyH_take (i := 4) (oi := { dst := some 57, op := _, type := _, pos := _, after := _, guard := _ }) (v := ?vv4r10) rfl (by kernel_rfl) (by kernel_rfl) (by kernel_rfl) (fun _ _ _ h => h) (Or.inl ⟨by rfl, ?hy4r10⟩) (by assumption) ?rest4r10
                                          case hy4r10 => ((intro w hSw; (try dsimp only at hSw); go_simp) <;> with_reducible rfl)
                                          case rest4r10 =>
                                            (try simp only [Act.put, List.setIfInBounds_toArray, List.set_cons_zero, List.set_cons_succ])
                                            refine anyH_at #[true, true, true, true, true, false, false, false, false, false, false, false, false, false] (by kernel_rfl) ?_
                                            refine wpAnyH_take (i := 6) (oi := { dst := some 59, op := _, type := _, pos := _, after := _, guard := _ }) (v := ?vv6r10) rfl (by kernel_rfl) (by kernel_rfl) (by kernel_rfl) (fun _ _ _ h => h) (Or.inl ⟨by rfl, ?hy6r10⟩) (by assumption) ?rest6r10
                                            case hy6r10 => ((intro w hSw; (try dsimp only at hSw); go_simp) <;> with_reducible rfl)
                                            case rest6r10 =>
                                              (try simp only [Act.put, List.setIfInBounds_toArray, List.set_cons_zero, List.set_cons_succ])
                                              refine anyH_at #[true, true, true, true, true, false, true, false, false, false, false, false, false, false] (by kernel_rfl) ?_
                                              refine wpAnyH_take (i := 7) (oi := { dst := some 60, op := _, type := _, pos := _, after := _, guard := _ }) (v := ?vv7r10) rfl (by kernel_rfl) (by kernel_rfl) (by kernel_rfl) (fun _ _ _ h => h) (Or.inl ⟨by rfl, ?hy7r10⟩) (by assumption) ?rest7r10
                                              case hy7r10 => ((intro w hSw; (try dsimp only at hSw); go_simp) <;> with_reducible rfl)
                                              case rest7r10 =>
                                                (try simp only [Act.put, List.setIfInBounds_toArray, List.set_cons_zero, List.set_cons_succ])
                                                refine anyH_at #[true, true, true, true, true, false, true, true, false, false, false, false, false, false] (by kernel_rfl) ?_
                                                refine wpAnyH_take (i := 8) (oi := { dst := some 61, op := _, type := _, pos := _, after := _, guard := _ }) (v := ?vv8r10) rfl (by kernel_rfl) (by kernel_rfl) (by kernel_rfl) (fun _ _ _ h => h) (Or.inl ⟨by rfl, ?hy8r10⟩) (by assumption) ?rest8r10
                                                case hy8r10 => ((intro w hSw; (try dsimp only at hSw); go_simp) <;> with_reducible rfl)
                                                case rest8r10 =>
                                                  (try simp only [Act.put, List.setIfInBounds_toArray, List.set_cons_zero, List.set_cons_succ])
                                                  refine anyH_at #[true, true, true, true, true, false, true, true, true, false, false, false, false, false] (by kernel_rfl) ?_
                                                  refine wpAnyH_take (i := 9) (oi := { dst := some 62, op := _, type := _, pos := _, after := _, guard := _ }) (v := ?vv9r10) rfl (by kernel_rfl) (by kernel_rfl) (by kernel_rfl) (fun _ _ _ h => h) (Or.inl ⟨by rfl, ?hy9r10⟩) (by assumption) ?rest9r10
                                                  case hy9r10 => ((intro w hSw; (try dsimp only at hSw); go_simp) <;> with_reducible rfl)
                                                  case rest9r10 =>
                                                    (try simp only [Act.put, List.setIfInBounds_toArray, List.set_cons_zero, List.set_cons_succ])
                                                    refine anyH_at #[true, true, true, true, true, false, true, true, true, true, false, false, false, false] (by kernel_rfl) ?_
                                                    refine wpAnyH_take (i := 10) (oi := { dst := some 63, op := _, type := _, pos := _, after := _, guard := _ }) (v := ?vv10r10) rfl (by kernel_rfl) (by kernel_rfl) (by kernel_rfl) (fun _ _ _ h => h) (Or.inl ⟨by rfl, ?hy10r10⟩) (by assumption) ?rest10r10
                                                    case hy10r10 => ((intro w hSw; (try dsimp only at hSw); go_simp) <;> with_reducible rfl)
                                                    case rest10r10 =>
                                                      (try simp only [Act.put, List.setIfInBounds_toArray, List.set_cons_zero, List.set_cons_succ])
                                                      refine anyH_at #[true, true, true, true, true, false, true, true, true, true, true, false, false, false] (by kernel_rfl) ?_
                                                      refine wpAnyH_ready (rs := [5]) (by kernel_rfl) (by simp) ?_
                                                      refine AllReadyH.cons (o := { dst := some 58, op := _, type := _, pos := _, after := _, guard := _ }) rfl (fun Kk hKk => ?_) AllReadyH.nil
                                                      go_simp
                                                      refine (unhide HPa _).mono ?_
                                                      rintro _ w7 ⟨rfl, hbl⟩
                                                      have HB := hide (bthen (unhide HB) hbl)
                                                      have HA := hide ((unhide HA).below hbl)
                                                      have HP := hide ((unhide HP).below hbl)
                                                      clear hbl
                                                      (try go_wp2_with fail)
                                                      refine hKk.out _ _ ?_ (fun hHeld => ?_)
                                                      · (try dsimp only)
                                                        exact ⟨unhide HA, unhide HP⟩
                                                      clear hKk Kk
                                                      (try simp only [List.setIfInBounds_toArray, List.set_cons_zero, List.set_cons_succ])
                                                      refine anyH_at #[true, true, true, true, true, true, true, true, true, true, true, false, false, false] (by kernel_rfl) ?_
                                                      refine wpAnyH_ready (rs := [11]) (by kernel_rfl) (by simp) ?_
                                                      refine AllReadyH.cons (o := { dst := some 64, op := _, type := _, pos := _, after := _, guard := _ }) rfl (fun Kk hKk => ?_) AllReadyH.nil
                                                      go_simp
                                                      refine (unhide HPb _).mono ?_
                                                      rintro _ w8 ⟨rfl, hbl⟩
                                                      have HB := hide (bthen (unhide HB) hbl)
                                                      have HA := hide ((unhide HA).below hbl)
                                                      have HP := hide ((unhide HP).below hbl)
                                                      clear hbl
                                                      (try go_wp2_with fail)
                                                      refine hKk.out _ _ ?_ (fun hHeld => ?_)
                                                      · (try dsimp only)
                                                        exact ⟨unhide HA, unhide HP⟩
                                                      clear hKk Kk
                                                      (try simp only [List.setIfInBounds_toArray, List.set_cons_zero, List.set_cons_succ])
                                                      refine anyH_at #[true, true, true, true, true, true, true, true, true, true, true, true, false, false] (by kernel_rfl) ?_
                                                      refine wpAnyH_take (i := 12) (oi := { dst := some 8, op := _, type := _, pos := _, after := _, guard := _ }) (v := ?vv12r10) rfl (by kernel_rfl) (by kernel_rfl) (by kernel_rfl) (fun _ _ _ h => h) (Or.inl ⟨by rfl, ?hy12r10⟩) (by assumption) ?rest12r10
                                                      case hy12r10 => ((intro w hSw; (try dsimp only at hSw); go_simp) <;> with_reducible rfl)
                                                      case rest12r10 =>
                                                        (try simp only [Act.put, List.setIfInBounds_toArray, List.set_cons_zero, List.set_cons_succ])
                                                        refine anyH_at #[true, true, true, true, true, true, true, true, true, true, true, true, true, false] (by kernel_rfl) ?_
                                                        refine wpAnyH_take (i := 13) (oi := { dst := some 9, op := _, type := _, pos := _, after := _, guard := _ }) (v := ?vv13r10) rfl (by kernel_rfl) (by kernel_rfl) (by kernel_rfl) (fun _ _ _ h => h) (Or.inl ⟨by rfl, ?hy13r10⟩) (by assumption) ?rest13r10
                                                        case hy13r10 => ((intro w hSw; (try dsimp only at hSw); go_simp) <;> with_reducible rfl)
                                                        case rest13r10 =>
                                                          (try simp only [Act.put, List.setIfInBounds_toArray, List.set_cons_zero, List.set_cons_succ])
                                                          refine anyH_at #[true, true, true, true, true, true, true, true, true, true, true, true, true, true] (by kernel_rfl) ?_
                                                          refine wpAnyH_done (by kernel_rfl) ?_ _
                                                          clear hHeld
                                                          obtain ⟨a0, a1, a2, a3, a4⟩ := unhide HA
                                                          go_wp2_with fail
                                                          clear a0 a1 a2 a3 a4
                                                          refine (unhide HI _).mono ?_
                                                          rintro _ w9 ⟨rfl, hbl⟩
                                                          have HB := hide (bthen (unhide HB) hbl)
                                                          have HA := hide ((unhide HA).below hbl)
                                                          have HP := hide ((unhide HP).below hbl)
                                                          clear hbl
                                                          obtain ⟨a0, a1, a2, a3, a4⟩ := unhide HA
                                                          go_wp2_with fail
                                                          clear a0 a1 a2 a3 a4
                                                          refine (unhide HD _).mono ?_
                                                          rintro _ w10 ⟨rfl, hbl⟩
                                                          have HB := hide (bthen (unhide HB) hbl)
                                                          have HA := hide ((unhide HA).below hbl)
                                                          have HP := hide ((unhide HP).below hbl)
                                                          clear hbl
                                                          go_wp2_with fail
                                                          refine (unhide HZ _).mono ?_
                                                          rintro _ w11 ⟨rfl, hbl⟩
                                                          have HB := hide (bthen (unhide HB) hbl)
                                                          clear hbl
                                                          go_wp2_with fail
                                                          go_ret
                                                          exact ⟨rfl, unhide HB⟩
set_option maxRecDepth 100000 in
set_option maxHeartbeats 4000000 in
theorem keeps_fin64 {w x h l X K E S A B I Z D cv h1 l1 h2 l2 : Int} {n m pn : Bool} (W : World) (g1 : (w != 32) = true) (g2 : (w != 64) = false) (HO : Hid (∀ W, Calls Try.prog 16 #[.int .i64 w, .int .u64 x] W fun r W' => r = .returned (.agg #[.bool pn, .int .i64 K, .int .i64 E, .int .u64 S]) ∧ Below W.heap.size W W'))
    (HPa : Hid (∀ W, Calls Try.prog 8 #[.int .i64 w, .bool false, .agg #[.int .u64 h, .int .u64 l], .int .i64 X, .bool false] W fun r W' => r = .returned (.int .u64 A) ∧ Below W.heap.size W W')) (HPb : Hid (∀ W, Calls Try.prog 8 #[.int .i64 w, .bool false, .agg #[.int .u64 h, .int .u64 l], .int .i64 X, .bool true] W fun r W' => r = .returned (.int .u64 B) ∧ Below W.heap.size W W'))
    (HI : Hid (∀ W, Calls Try.prog 20 #[.int .i64 w, .bool false] W fun r W' => r = .returned (.int .u64 I) ∧ Below W.heap.size W W')) (HD : Hid (∀ W, Calls Try.prog 8 #[.int .i64 w, .bool true, .agg #[.int .u64 h, .int .u64 l], .int .i64 X, .bool true] W fun r W' => r = .returned (.int .u64 D) ∧ Below W.heap.size W W')) (HZ : Hid (∀ W, Calls Try.prog 21 #[.int .i64 w, .bool true] W fun r W' => r = .returned (.int .u64 Z) ∧ Below W.heap.size W W'))
    (kab : A ≤ B) (kbi : B ≤ I) (ko : bits .or .u64 B Z = D) (k3 : (K != 3) = true) (k1 : (K == 1) = true) (HN : Hid (∀ W, Calls Try.prog 12 #[.int .i64 w, .agg #[.bool pn, .int .i64 K, .int .i64 E, .int .u64 S]] W fun r W' => r = .returned (.int .u64 cv) ∧ Below W.heap.size W W')) (HC : Hid (∀ W, Calls Try.prog 17 #[.int .i64 w, .int .u64 x] W fun r W' => r = .returned (.int .u64 cv) ∧ Below W.heap.size W W')) (HS : Hid (∀ W, Calls Try.prog 19 #[.int .u64 S] W fun r W' => r = .returned (.agg #[.int .u64 h1, .int .u64 l1]) ∧ Below W.heap.size W W')) (HL : Hid (∀ W, Calls Try.prog 18 #[.agg #[.int .u64 h1, .int .u64 l1], .int .i64 60] W fun r W' => r = .returned (.agg #[.int .u64 h2, .int .u64 l2]) ∧ Below W.heap.size W W')) (ke : IntKind.i64.wrap (E - 60) = E - 60)
    (HPc : Hid (∀ W, Calls Try.prog 8 #[.int .i64 w, .bool pn, .agg #[.int .u64 h2, .int .u64 l2], .int .i64 (E - 60), .bool false] W fun r W' => r = .returned (.int .u64 cv) ∧ Below W.heap.size W W')) :
    Calls Try.prog 5 #[.int .i64 w, .int .u64 x, .agg #[.bool n, .int .u64 h, .int .u64 l, .int .i64 X, .bool m]] W fun r W' => r = .returned (.bool true) ∧ Below W.heap.size W W' := by
  go_enter Try.func5, Try.ntmps5
  go_wp2_with fail
  refine (awake_any _).mono ?_
  rintro _ w1 ⟨rfl, hb⟩
  have HA := hide ((at5_new W (.bool n) (.int .u64 h) (.int .u64 l) (.int .i64 X) (.bool m) 26).below hb)
  have HB := hide (bthen (below1 _ _) hb)
  clear hb
  go_wp2_with fail
  refine (unhide HO _).mono ?_
  rintro _ w2 ⟨rfl, hbl⟩
  have HA := hide (((unhide HA).below hbl).below (below1 _ (.cells #[.bool pn, .int .i64 K, .int .i64 E, .int .u64 S] 33)))
  have HP := hide (at4_new w2 (.bool pn) (.int .i64 K) (.int .i64 E) (.int .u64 S) 33)
  have HB := hide (balloc (bthen (unhide HB) hbl) (.cells #[.bool pn, .int .i64 K, .int .i64 E, .int .u64 S] 33))
  clear hbl
  go_wp2_with fail
  refine (unhide HN _).mono ?_
  rintro _ w31 ⟨rfl, hbl⟩
  have HB := hide (bthen (unhide HB) hbl)
  have HA := hide ((unhide HA).below hbl)
  have HP := hide ((unhide HP).below hbl)
  clear hbl
  go_wp2_with fail
  refine (unhide HC _).mono ?_
  rintro _ w32 ⟨rfl, hbl⟩
  have HB := hide (bthen (unhide HB) hbl)
  have HA := hide ((unhide HA).below hbl)
  have HP := hide ((unhide HP).below hbl)
  clear hbl
  obtain ⟨b0, b1, b2, b3⟩ := unhide HP
  go_wp2_with fail
  clear b0 b1 b2 b3
  have HB := hide (unhide HB).drew
  have HA := hide ((unhide HA).below ((Below.refl _ _).drew))
  have HP := hide ((unhide HP).below ((Below.refl _ _).drew))
  refine wp_region_held_drew (S := fun w' => (w'.cell? ⟨W.heap.size, 0, none⟩ = some (.bool n) ∧ w'.cell? ⟨W.heap.size, 1, none⟩ = some (.int .u64 h) ∧ w'.cell? ⟨W.heap.size, 2, none⟩ = some (.int .u64 l) ∧ w'.cell? ⟨W.heap.size, 3, none⟩ = some (.int .i64 X) ∧ w'.cell? ⟨W.heap.size, 4, none⟩ = some (.bool m)) ∧ (w'.cell? ⟨w2.heap.size, 0, none⟩ = some (.bool pn) ∧ w'.cell? ⟨w2.heap.size, 1, none⟩ = some (.int .i64 K) ∧ w'.cell? ⟨w2.heap.size, 2, none⟩ = some (.int .i64 E) ∧ w'.cell? ⟨w2.heap.size, 3, none⟩ = some (.int .u64 S))) (by kernel_rfl) ?_ (fun hHeld => ?_)
  · (try dsimp only)
    exact ⟨unhide HA, unhide HP⟩
  refine anyH_at #[false, false, false, false, false, false, false, false, false, false, false, false, false, false, false, false, false, false, false, false] (by kernel_rfl) ?_
  refine wpAnyH_take (i := 0) (oi := { dst := some 33, op := _, type := _, pos := _, after := _, guard := _ }) (v := ?vv0r8) rfl (by kernel_rfl) (by kernel_rfl) (by kernel_rfl) (fun _ _ _ h => h) (Or.inl ⟨by rfl, ?hy0r8⟩) (by assumption) ?rest0r8
  case hy0r8 => ((intro w hSw; (try dsimp only at hSw); go_simp) <;> with_reducible rfl)
  case rest0r8 =>
    (try simp only [Act.put, List.setIfInBounds_toArray, List.set_cons_zero, List.set_cons_succ])
    refine anyH_at #[true, false, false, false, false, false, false, false, false, false, false, false, false, false, false, false, false, false, false, false] (by kernel_rfl) ?_
    refine wpAnyH_take (i := 1) (oi := { dst := some 34, op := _, type := _, pos := _, after := _, guard := _ }) (v := ?vv1r8) rfl (by kernel_rfl) (by kernel_rfl) (by kernel_rfl) (fun _ _ _ h => h) (Or.inl ⟨by rfl, ?hy1r8⟩) (by assumption) ?rest1r8
    case hy1r8 => ((intro w hSw; (try dsimp only at hSw); go_simp) <;> with_reducible rfl)
    case rest1r8 =>
      (try simp only [Act.put, List.setIfInBounds_toArray, List.set_cons_zero, List.set_cons_succ])
      refine anyH_at #[true, true, false, false, false, false, false, false, false, false, false, false, false, false, false, false, false, false, false, false] (by kernel_rfl) ?_
      refine wpAnyH_take (i := 2) (oi := { dst := some 35, op := _, type := _, pos := _, after := _, guard := _ }) (v := ?vv2r8) rfl (by kernel_rfl) (by kernel_rfl) (by kernel_rfl) (fun _ _ _ h => h) (Or.inl ⟨by rfl, ?hy2r8⟩) (by assumption) ?rest2r8
      case hy2r8 => ((intro w hSw; (try dsimp only at hSw); go_simp) <;> with_reducible rfl)
      case rest2r8 =>
        (try simp only [Act.put, List.setIfInBounds_toArray, List.set_cons_zero, List.set_cons_succ])
        refine anyH_at #[true, true, true, false, false, false, false, false, false, false, false, false, false, false, false, false, false, false, false, false] (by kernel_rfl) ?_
        refine wpAnyH_take (i := 3) (oi := { dst := some 36, op := _, type := _, pos := _, after := _, guard := _ }) (v := ?vv3r8) rfl (by kernel_rfl) (by kernel_rfl) (by kernel_rfl) (fun _ _ _ h => h) (Or.inl ⟨by rfl, ?hy3r8⟩) (by assumption) ?rest3r8
        case hy3r8 => ((intro w hSw; (try dsimp only at hSw); go_simp) <;> with_reducible rfl)
        case rest3r8 =>
          (try simp only [Act.put, List.setIfInBounds_toArray, List.set_cons_zero, List.set_cons_succ])
          refine anyH_at #[true, true, true, true, false, false, false, false, false, false, false, false, false, false, false, false, false, false, false, false] (by kernel_rfl) ?_
          refine wpAnyH_take (i := 4) (oi := { dst := some 37, op := _, type := _, pos := _, after := _, guard := _ }) (v := ?vv4r8) rfl (by kernel_rfl) (by kernel_rfl) (by kernel_rfl) (fun _ _ _ h => h) (Or.inl ⟨by rfl, ?hy4r8⟩) (by assumption) ?rest4r8
          case hy4r8 => ((intro w hSw; (try dsimp only at hSw); go_simp) <;> with_reducible rfl)
          case rest4r8 =>
            (try simp only [Act.put, List.setIfInBounds_toArray, List.set_cons_zero, List.set_cons_succ])
            refine anyH_at #[true, true, true, true, true, false, false, false, false, false, false, false, false, false, false, false, false, false, false, false] (by kernel_rfl) ?_
            refine wpAnyH_take (i := 5) (oi := { dst := some 38, op := _, type := _, pos := _, after := _, guard := _ }) (v := ?vv5r8) rfl (by kernel_rfl) (by kernel_rfl) (by kernel_rfl) (fun _ _ _ h => h) (Or.inl ⟨by rfl, ?hy5r8⟩) (by assumption) ?rest5r8
            case hy5r8 => ((intro w hSw; (try dsimp only at hSw); go_simp) <;> with_reducible rfl)
            case rest5r8 =>
              (try simp only [Act.put, List.setIfInBounds_toArray, List.set_cons_zero, List.set_cons_succ])
              refine anyH_at #[true, true, true, true, true, true, false, false, false, false, false, false, false, false, false, false, false, false, false, false] (by kernel_rfl) ?_
              refine wpAnyH_take (i := 6) (oi := { dst := some 39, op := _, type := _, pos := _, after := _, guard := _ }) (v := ?vv6r8) rfl (by kernel_rfl) (by kernel_rfl) (by kernel_rfl) (fun _ _ _ h => h) (Or.inl ⟨by rfl, ?hy6r8⟩) (by assumption) ?rest6r8
              case hy6r8 => ((intro w hSw; (try dsimp only at hSw); go_simp) <;> with_reducible rfl)
              case rest6r8 =>
                (try simp only [Act.put, List.setIfInBounds_toArray, List.set_cons_zero, List.set_cons_succ])
                refine anyH_at #[true, true, true, true, true, true, true, false, false, false, false, false, false, false, false, false, false, false, false, false] (by kernel_rfl) ?_
                refine wpAnyH_take (i := 7) (oi := { dst := some 40, op := _, type := _, pos := _, after := _, guard := _ }) (v := ?vv7r8) rfl (by kernel_rfl) (by kernel_rfl) (by kernel_rfl) (fun _ _ _ h => h) (Or.inl ⟨by rfl, ?hy7r8⟩) (by assumption) ?rest7r8
                case hy7r8 => ((intro w hSw; (try dsimp only at hSw); go_simp) <;> with_reducible rfl)
                case rest7r8 =>
                  (try simp only [Act.put, List.setIfInBounds_toArray, List.set_cons_zero, List.set_cons_succ])
                  refine anyH_at #[true, true, true, true, true, true, true, true, false, false, false, false, false, false, false, false, false, false, false, false] (by kernel_rfl) ?_
                  refine wpAnyH_take (i := 8) (oi := { dst := some 41, op := _, type := _, pos := _, after := _, guard := _ }) (v := ?vv8r8) rfl (by kernel_rfl) (by kernel_rfl) (by kernel_rfl) (fun _ _ _ h => h) (Or.inl ⟨by rfl, ?hy8r8⟩) (by assumption) ?rest8r8
                  case hy8r8 => ((intro w hSw; (try dsimp only at hSw); go_simp) <;> with_reducible rfl)
                  case rest8r8 =>
                    (try simp only [Act.put, List.setIfInBounds_toArray, List.set_cons_zero, List.set_cons_succ])
                    refine anyH_at #[true, true, true, true, true, true, true, true, true, false, false, false, false, false, false, false, false, false, false, false] (by kernel_rfl) ?_
                    refine wpAnyH_take (i := 11) (oi := { dst := some 44, op := _, type := _, pos := _, after := _, guard := _ }) (v := ?vv11r8) rfl (by kernel_rfl) (by kernel_rfl) (by kernel_rfl) (fun _ _ _ h => h) (Or.inl ⟨by rfl, ?hy11r8⟩) (by assumption) ?rest11r8
                    case hy11r8 => ((intro w hSw; (try dsimp only at hSw); go_simp) <;> with_reducible rfl)
                    case rest11r8 =>
                      (try simp only [Act.put, List.setIfInBounds_toArray, List.set_cons_zero, List.set_cons_succ])
                      refine anyH_at #[true, true, true, true, true, true, true, true, true, false, false, true, false, false, false, false, false, false, false, false] (by kernel_rfl) ?_
                      refine wpAnyH_take (i := 12) (oi := { dst := some 45, op := _, type := _, pos := _, after := _, guard := _ }) (v := ?vv12r8) rfl (by kernel_rfl) (by kernel_rfl) (by kernel_rfl) (fun _ _ _ h => h) (Or.inl ⟨by rfl, ?hy12r8⟩) (by assumption) ?rest12r8
                      case hy12r8 => ((intro w hSw; (try dsimp only at hSw); go_simp) <;> with_reducible rfl)
                      case rest12r8 =>
                        (try simp only [Act.put, List.setIfInBounds_toArray, List.set_cons_zero, List.set_cons_succ])
                        refine anyH_at #[true, true, true, true, true, true, true, true, true, false, false, true, true, false, false, false, false, false, false, false] (by kernel_rfl) ?_
                        refine wpAnyH_take (i := 13) (oi := { dst := some 46, op := _, type := _, pos := _, after := _, guard := _ }) (v := ?vv13r8) rfl (by kernel_rfl) (by kernel_rfl) (by kernel_rfl) (fun _ _ _ h => h) (Or.inl ⟨by rfl, ?hy13r8⟩) (by assumption) ?rest13r8
                        case hy13r8 => ((intro w hSw; (try dsimp only at hSw); go_simp) <;> with_reducible rfl)
                        case rest13r8 =>
                          (try simp only [Act.put, List.setIfInBounds_toArray, List.set_cons_zero, List.set_cons_succ])
                          refine anyH_at #[true, true, true, true, true, true, true, true, true, false, false, true, true, true, false, false, false, false, false, false] (by kernel_rfl) ?_
                          refine wpAnyH_take (i := 15) (oi := { dst := some 48, op := _, type := _, pos := _, after := _, guard := _ }) (v := ?vv15r8) rfl (by kernel_rfl) (by kernel_rfl) (by kernel_rfl) (fun _ _ _ h => h) (Or.inl ⟨by rfl, ?hy15r8⟩) (by assumption) ?rest15r8
                          case hy15r8 => ((intro w hSw; (try dsimp only at hSw); go_simp) <;> with_reducible rfl)
                          case rest15r8 =>
                            (try simp only [Act.put, List.setIfInBounds_toArray, List.set_cons_zero, List.set_cons_succ])
                            refine anyH_at #[true, true, true, true, true, true, true, true, true, false, false, true, true, true, false, true, false, false, false, false] (by kernel_rfl) ?_
                            refine wpAnyH_take (i := 16) (oi := { dst := some 49, op := _, type := _, pos := _, after := _, guard := _ }) (v := ?vv16r8) rfl (by kernel_rfl) (by kernel_rfl) (by kernel_rfl) (fun _ _ _ h => h) (Or.inl ⟨by rfl, ?hy16r8⟩) (by assumption) ?rest16r8
                            case hy16r8 => ((intro w hSw; (try dsimp only at hSw); go_simp) <;> with_reducible rfl)
                            case rest16r8 =>
                              (try simp only [Act.put, List.setIfInBounds_toArray, List.set_cons_zero, List.set_cons_succ])
                              refine anyH_at #[true, true, true, true, true, true, true, true, true, false, false, true, true, true, false, true, true, false, false, false] (by kernel_rfl) ?_
                              refine wpAnyH_ready (rs := [9]) (by kernel_rfl) (by simp) ?_
                              refine AllReadyH.cons (o := { dst := some 42, op := _, type := _, pos := _, after := _, guard := _ }) rfl (fun Kk hKk => ?_) AllReadyH.nil
                              go_simp
                              refine (unhide HS _).mono ?_
                              rintro _ w4 ⟨rfl, hbl⟩
                              have HB := hide (bthen (unhide HB) hbl)
                              have HA := hide ((unhide HA).below hbl)
                              have HP := hide ((unhide HP).below hbl)
                              clear hbl
                              (try go_wp2_with fail)
                              refine hKk.out _ _ ?_ (fun hHeld => ?_)
                              · (try dsimp only)
                                exact ⟨unhide HA, unhide HP⟩
                              clear hKk Kk
                              (try simp only [List.setIfInBounds_toArray, List.set_cons_zero, List.set_cons_succ])
                              refine anyH_at #[true, true, true, true, true, true, true, true, true, true, false, true, true, true, false, true, true, false, false, false] (by kernel_rfl) ?_
                              refine wpAnyH_ready (rs := [10]) (by kernel_rfl) (by simp) ?_
                              refine AllReadyH.cons (o := { dst := some 43, op := _, type := _, pos := _, after := _, guard := _ }) rfl (fun Kk hKk => ?_) AllReadyH.nil
                              go_simp
                              refine (unhide HL _).mono ?_
                              rintro _ w5 ⟨rfl, hbl⟩
                              have HB := hide (bthen (unhide HB) hbl)
                              have HA := hide ((unhide HA).below hbl)
                              have HP := hide ((unhide HP).below hbl)
                              clear hbl
                              (try go_wp2_with fail)
                              refine hKk.out _ _ ?_ (fun hHeld => ?_)
                              · (try dsimp only)
                                exact ⟨unhide HA, unhide HP⟩
                              clear hKk Kk
                              (try simp only [List.setIfInBounds_toArray, List.set_cons_zero, List.set_cons_succ])
                              refine anyH_at #[true, true, true, true, true, true, true, true, true, true, true, true, true, true, false, true, true, false, false, false] (by kernel_rfl) ?_
                              refine wpAnyH_ready (rs := [14]) (by kernel_rfl) (by simp) ?_
                              refine AllReadyH.cons (o := { dst := some 47, op := _, type := _, pos := _, after := _, guard := _ }) rfl (fun Kk hKk => ?_) AllReadyH.nil
                              go_simp
                              refine (unhide HPc _).mono ?_
                              rintro _ w6 ⟨rfl, hbl⟩
                              have HB := hide (bthen (unhide HB) hbl)
                              have HA := hide ((unhide HA).below hbl)
                              have HP := hide ((unhide HP).below hbl)
                              clear hbl
                              (try go_wp2_with fail)
                              refine hKk.out _ _ ?_ (fun hHeld => ?_)
                              · (try dsimp only)
                                exact ⟨unhide HA, unhide HP⟩
                              clear hKk Kk
                              (try simp only [List.setIfInBounds_toArray, List.set_cons_zero, List.set_cons_succ])
                              refine anyH_at #[true, true, true, true, true, true, true, true, true, true, true, true, true, true, true, true, true, false, false, false] (by kernel_rfl) ?_
                              refine wpAnyH_ready (rs := [17]) (by kernel_rfl) (by simp) ?_
                              refine AllReadyH.cons (o := { dst := some 50, op := _, type := _, pos := _, after := _, guard := _ }) rfl (fun Kk hKk => ?_) AllReadyH.nil
                              go_simp
                              refine (unhide HC _).mono ?_
                              rintro _ w66 ⟨rfl, hbl⟩
                              have HB := hide (bthen (unhide HB) hbl)
                              have HA := hide ((unhide HA).below hbl)
                              have HP := hide ((unhide HP).below hbl)
                              clear hbl
                              (try go_wp2_with fail)
                              refine hKk.out _ _ ?_ (fun hHeld => ?_)
                              · (try dsimp only)
                                exact ⟨unhide HA, unhide HP⟩
                              clear hKk Kk
                              (try simp only [List.setIfInBounds_toArray, List.set_cons_zero, List.set_cons_succ])
                              refine anyH_at #[true, true, true, true, true, true, true, true, true, true, true, true, true, true, true, true, true, true, false, false] (by kernel_rfl) ?_
                              refine wpAnyH_take (i := 18) (oi := { dst := some 51, op := _, type := _, pos := _, after := _, guard := _ }) (v := ?vv18r8) rfl (by kernel_rfl) (by kernel_rfl) (by kernel_rfl) (fun _ _ _ h => h) (Or.inl ⟨by rfl, ?hy18r8⟩) (by assumption) ?rest18r8
                              case hy18r8 => ((intro w hSw; (try dsimp only at hSw); go_simp) <;> with_reducible rfl)
                              case rest18r8 =>
                                (try simp only [Act.put, List.setIfInBounds_toArray, List.set_cons_zero, List.set_cons_succ])
                                refine anyH_at #[true, true, true, true, true, true, true, true, true, true, true, true, true, true, true, true, true, true, true, false] (by kernel_rfl) ?_
                                refine wpAnyH_take (i := 19) (oi := { dst := some 52, op := _, type := _, pos := _, after := _, guard := _ }) (v := ?vv19r8) rfl (by kernel_rfl) (by kernel_rfl) (by kernel_rfl) (fun _ _ _ h => h) (Or.inl ⟨by rfl, ?hy19r8⟩) (by assumption) ?rest19r8
                                case hy19r8 => ((intro w hSw; (try dsimp only at hSw); go_simp) <;> with_reducible rfl)
                                case rest19r8 =>
                                  (try simp only [Act.put, List.setIfInBounds_toArray, List.set_cons_zero, List.set_cons_succ])
                                  refine anyH_at #[true, true, true, true, true, true, true, true, true, true, true, true, true, true, true, true, true, true, true, true] (by kernel_rfl) ?_
                                  refine wpAnyH_done (by kernel_rfl) ?_ _
                                  clear hHeld
                                  go_wp2_with fail
                                  have HB := hide (unhide HB).drew
                                  have HA := hide ((unhide HA).below ((Below.refl _ _).drew))
                                  have HP := hide ((unhide HP).below ((Below.refl _ _).drew))
                                  refine wp_region_held_drew (S := fun w' => (w'.cell? ⟨W.heap.size, 0, none⟩ = some (.bool n) ∧ w'.cell? ⟨W.heap.size, 1, none⟩ = some (.int .u64 h) ∧ w'.cell? ⟨W.heap.size, 2, none⟩ = some (.int .u64 l) ∧ w'.cell? ⟨W.heap.size, 3, none⟩ = some (.int .i64 X) ∧ w'.cell? ⟨W.heap.size, 4, none⟩ = some (.bool m)) ∧ (w'.cell? ⟨w2.heap.size, 0, none⟩ = some (.bool pn) ∧ w'.cell? ⟨w2.heap.size, 1, none⟩ = some (.int .i64 K) ∧ w'.cell? ⟨w2.heap.size, 2, none⟩ = some (.int .i64 E) ∧ w'.cell? ⟨w2.heap.size, 3, none⟩ = some (.int .u64 S))) (by kernel_rfl) ?_ (fun hHeld => ?_)
                                  · (try dsimp only)
                                    exact ⟨unhide HA, unhide HP⟩
                                  refine anyH_at #[false, false, false, false, false, false, false, false, false, false, false, false, false, false] (by kernel_rfl) ?_
                                  refine wpAnyH_take (i := 0) (oi := { dst := some 53, op := _, type := _, pos := _, after := _, guard := _ }) (v := ?vv0r10) rfl (by kernel_rfl) (by kernel_rfl) (by kernel_rfl) (fun _ _ _ h => h) (Or.inl ⟨by rfl, ?hy0r10⟩) (by assumption) ?rest0r10
                                  case hy0r10 => ((intro w hSw; (try dsimp only at hSw); go_simp) <;> with_reducible rfl)
                                  case rest0r10 =>
                                    (try simp only [Act.put, List.setIfInBounds_toArray, List.set_cons_zero, List.set_cons_succ])
                                    refine anyH_at #[true, false, false, false, false, false, false, false, false, false, false, false, false, false] (by kernel_rfl) ?_
                                    refine wpAnyH_take (i := 1) (oi := { dst := some 54, op := _, type := _, pos := _, after := _, guard := _ }) (v := ?vv1r10) rfl (by kernel_rfl) (by kernel_rfl) (by kernel_rfl) (fun _ _ _ h => h) (Or.inl ⟨by rfl, ?hy1r10⟩) (by assumption) ?rest1r10
                                    case hy1r10 => ((intro w hSw; (try dsimp only at hSw); go_simp) <;> with_reducible rfl)
                                    case rest1r10 =>
                                      (try simp only [Act.put, List.setIfInBounds_toArray, List.set_cons_zero, List.set_cons_succ])
                                      refine anyH_at #[true, true, false, false, false, false, false, false, false, false, false, false, false, false] (by kernel_rfl) ?_
                                      refine wpAnyH_take (i := 2) (oi := { dst := some 55, op := _, type := _, pos := _, after := _, guard := _ }) (v := ?vv2r10) rfl (by kernel_rfl) (by kernel_rfl) (by kernel_rfl) (fun _ _ _ h => h) (Or.inl ⟨by rfl, ?hy2r10⟩) (by assumption) ?rest2r10
                                      case hy2r10 => ((intro w hSw; (try dsimp only at hSw); go_simp) <;> with_reducible rfl)
                                      case rest2r10 =>
                                        (try simp only [Act.put, List.setIfInBounds_toArray, List.set_cons_zero, List.set_cons_succ])
                                        refine anyH_at #[true, true, true, false, false, false, false, false, false, false, false, false, false, false] (by kernel_rfl) ?_
                                        refine wpAnyH_take (i := 3) (oi := { dst := some 56, op := _, type := _, pos := _, after := _, guard := _ }) (v := ?vv3r10) rfl (by kernel_rfl) (by kernel_rfl) (by kernel_rfl) (fun _ _ _ h => h) (Or.inl ⟨by rfl, ?hy3r10⟩) (by assumption) ?rest3r10
                                        case hy3r10 => ((intro w hSw; (try dsimp only at hSw); go_simp) <;> with_reducible rfl)
                                        case rest3r10 =>
                                          (try simp only [Act.put, List.setIfInBounds_toArray, List.set_cons_zero, List.set_cons_succ])
                                          refine anyH_at #[true, true, true, true, false, false, false, false, false, false, false, false, false, false] (by kernel_rfl) ?_
                                          refine wpAnyH_take (i := 4) (oi := { dst := some 57, op := _, type := _, pos := _, after := _, guard := _ }) (v := ?vv4r10) rfl (by kernel_rfl) (by kernel_rfl) (by kernel_rfl) (fun _ _ _ h => h) (Or.inl ⟨by rfl, ?hy4r10⟩) (by assumption) ?rest4r10
                                          case hy4r10 => ((intro w hSw; (try dsimp only at hSw); go_simp) <;> with_reducible rfl)
                                          case rest4r10 =>
                                            (try simp only [Act.put, List.setIfInBounds_toArray, List.set_cons_zero, List.set_cons_succ])
                                            refine anyH_at #[true, true, true, true, true, false, false, false, false, false, false, false, false, false] (by kernel_rfl) ?_
                                            refine wpAnyH_take (i := 6) (oi := { dst := some 59, op := _, type := _, pos := _, after := _, guard := _ }) (v := ?vv6r10) rfl (by kernel_rfl) (by kernel_rfl) (by kernel_rfl) (fun _ _ _ h => h) (Or.inl ⟨by rfl, ?hy6r10⟩) (by assumption) ?rest6r10
                                            case hy6r10 => ((intro w hSw; (try dsimp only at hSw); go_simp) <;> with_reducible rfl)
                                            case rest6r10 =>
                                              (try simp only [Act.put, List.setIfInBounds_toArray, List.set_cons_zero, List.set_cons_succ])
                                              refine anyH_at #[true, true, true, true, true, false, true, false, false, false, false, false, false, false] (by kernel_rfl) ?_
                                              refine wpAnyH_take (i := 7) (oi := { dst := some 60, op := _, type := _, pos := _, after := _, guard := _ }) (v := ?vv7r10) rfl (by kernel_rfl) (by kernel_rfl) (by kernel_rfl) (fun _ _ _ h => h) (Or.inl ⟨by rfl, ?hy7r10⟩) (by assumption) ?rest7r10
                                              case hy7r10 => ((intro w hSw; (try dsimp only at hSw); go_simp) <;> with_reducible rfl)
                                              case rest7r10 =>
                                                (try simp only [Act.put, List.setIfInBounds_toArray, List.set_cons_zero, List.set_cons_succ])
                                                refine anyH_at #[true, true, true, true, true, false, true, true, false, false, false, false, false, false] (by kernel_rfl) ?_
                                                refine wpAnyH_take (i := 8) (oi := { dst := some 61, op := _, type := _, pos := _, after := _, guard := _ }) (v := ?vv8r10) rfl (by kernel_rfl) (by kernel_rfl) (by kernel_rfl) (fun _ _ _ h => h) (Or.inl ⟨by rfl, ?hy8r10⟩) (by assumption) ?rest8r10
                                                case hy8r10 => ((intro w hSw; (try dsimp only at hSw); go_simp) <;> with_reducible rfl)
                                                case rest8r10 =>
                                                  (try simp only [Act.put, List.setIfInBounds_toArray, List.set_cons_zero, List.set_cons_succ])
                                                  refine anyH_at #[true, true, true, true, true, false, true, true, true, false, false, false, false, false] (by kernel_rfl) ?_
                                                  refine wpAnyH_take (i := 9) (oi := { dst := some 62, op := _, type := _, pos := _, after := _, guard := _ }) (v := ?vv9r10) rfl (by kernel_rfl) (by kernel_rfl) (by kernel_rfl) (fun _ _ _ h => h) (Or.inl ⟨by rfl, ?hy9r10⟩) (by assumption) ?rest9r10
                                                  case hy9r10 => ((intro w hSw; (try dsimp only at hSw); go_simp) <;> with_reducible rfl)
                                                  case rest9r10 =>
                                                    (try simp only [Act.put, List.setIfInBounds_toArray, List.set_cons_zero, List.set_cons_succ])
                                                    refine anyH_at #[true, true, true, true, true, false, true, true, true, true, false, false, false, false] (by kernel_rfl) ?_
                                                    refine wpAnyH_take (i := 10) (oi := { dst := some 63, op := _, type := _, pos := _, after := _, guard := _ }) (v := ?vv10r10) rfl (by kernel_rfl) (by kernel_rfl) (by kernel_rfl) (fun _ _ _ h => h) (Or.inl ⟨by rfl, ?hy10r10⟩) (by assumption) ?rest10r10
                                                    case hy10r10 => ((intro w hSw; (try dsimp only at hSw); go_simp) <;> with_reducible rfl)
                                                    case rest10r10 =>
                                                      (try simp only [Act.put, List.setIfInBounds_toArray, List.set_cons_zero, List.set_cons_succ])
                                                      refine anyH_at #[true, true, true, true, true, false, true, true, true, true, true, false, false, false] (by kernel_rfl) ?_
                                                      refine wpAnyH_ready (rs := [5]) (by kernel_rfl) (by simp) ?_
                                                      refine AllReadyH.cons (o := { dst := some 58, op := _, type := _, pos := _, after := _, guard := _ }) rfl (fun Kk hKk => ?_) AllReadyH.nil
                                                      go_simp
                                                      refine (unhide HPa _).mono ?_
                                                      rintro _ w7 ⟨rfl, hbl⟩
                                                      have HB := hide (bthen (unhide HB) hbl)
                                                      have HA := hide ((unhide HA).below hbl)
                                                      have HP := hide ((unhide HP).below hbl)
                                                      clear hbl
                                                      (try go_wp2_with fail)
                                                      refine hKk.out _ _ ?_ (fun hHeld => ?_)
                                                      · (try dsimp only)
                                                        exact ⟨unhide HA, unhide HP⟩
                                                      clear hKk Kk
                                                      (try simp only [List.setIfInBounds_toArray, List.set_cons_zero, List.set_cons_succ])
                                                      refine anyH_at #[true, true, true, true, true, true, true, true, true, true, true, false, false, false] (by kernel_rfl) ?_
                                                      refine wpAnyH_ready (rs := [11]) (by kernel_rfl) (by simp) ?_
                                                      refine AllReadyH.cons (o := { dst := some 64, op := _, type := _, pos := _, after := _, guard := _ }) rfl (fun Kk hKk => ?_) AllReadyH.nil
                                                      go_simp
                                                      refine (unhide HPb _).mono ?_
                                                      rintro _ w8 ⟨rfl, hbl⟩
                                                      have HB := hide (bthen (unhide HB) hbl)
                                                      have HA := hide ((unhide HA).below hbl)
                                                      have HP := hide ((unhide HP).below hbl)
                                                      clear hbl
                                                      (try go_wp2_with fail)
                                                      refine hKk.out _ _ ?_ (fun hHeld => ?_)
                                                      · (try dsimp only)
                                                        exact ⟨unhide HA, unhide HP⟩
                                                      clear hKk Kk
                                                      (try simp only [List.setIfInBounds_toArray, List.set_cons_zero, List.set_cons_succ])
                                                      refine anyH_at #[true, true, true, true, true, true, true, true, true, true, true, true, false, false] (by kernel_rfl) ?_
                                                      refine wpAnyH_take (i := 12) (oi := { dst := some 8, op := _, type := _, pos := _, after := _, guard := _ }) (v := ?vv12r10) rfl (by kernel_rfl) (by kernel_rfl) (by kernel_rfl) (fun _ _ _ h => h) (Or.inl ⟨by rfl, ?hy12r10⟩) (by assumption) ?rest12r10
                                                      case hy12r10 => ((intro w hSw; (try dsimp only at hSw); go_simp) <;> with_reducible rfl)
                                                      case rest12r10 =>
                                                        (try simp only [Act.put, List.setIfInBounds_toArray, List.set_cons_zero, List.set_cons_succ])
                                                        refine anyH_at #[true, true, true, true, true, true, true, true, true, true, true, true, true, false] (by kernel_rfl) ?_
                                                        refine wpAnyH_take (i := 13) (oi := { dst := some 9, op := _, type := _, pos := _, after := _, guard := _ }) (v := ?vv13r10) rfl (by kernel_rfl) (by kernel_rfl) (by kernel_rfl) (fun _ _ _ h => h) (Or.inl ⟨by rfl, ?hy13r10⟩) (by assumption) ?rest13r10
                                                        case hy13r10 => ((intro w hSw; (try dsimp only at hSw); go_simp) <;> with_reducible rfl)
                                                        case rest13r10 =>
                                                          (try simp only [Act.put, List.setIfInBounds_toArray, List.set_cons_zero, List.set_cons_succ])
                                                          refine anyH_at #[true, true, true, true, true, true, true, true, true, true, true, true, true, true] (by kernel_rfl) ?_
                                                          refine wpAnyH_done (by kernel_rfl) ?_ _
                                                          clear hHeld
                                                          obtain ⟨a0, a1, a2, a3, a4⟩ := unhide HA
                                                          go_wp2_with fail
                                                          clear a0 a1 a2 a3 a4
                                                          refine (unhide HI _).mono ?_
                                                          rintro _ w9 ⟨rfl, hbl⟩
                                                          have HB := hide (bthen (unhide HB) hbl)
                                                          have HA := hide ((unhide HA).below hbl)
                                                          have HP := hide ((unhide HP).below hbl)
                                                          clear hbl
                                                          obtain ⟨a0, a1, a2, a3, a4⟩ := unhide HA
                                                          go_wp2_with fail
                                                          clear a0 a1 a2 a3 a4
                                                          refine (unhide HD _).mono ?_
                                                          rintro _ w10 ⟨rfl, hbl⟩
                                                          have HB := hide (bthen (unhide HB) hbl)
                                                          have HA := hide ((unhide HA).below hbl)
                                                          have HP := hide ((unhide HP).below hbl)
                                                          clear hbl
                                                          go_wp2_with fail
                                                          refine (unhide HZ _).mono ?_
                                                          rintro _ w11 ⟨rfl, hbl⟩
                                                          have HB := hide (bthen (unhide HB) hbl)
                                                          clear hbl
                                                          go_wp2_with fail
                                                          go_ret
                                                          exact ⟨rfl, unhide HB⟩

end Go.Proofs.Ytiklaalcmfkddaa
