/- The statement WideRoots: its walk. -/
import Derived.Test.YtifacdihhhcmnaaRefL
namespace Go.Proofs.Ytifacdihhhcmnaa
open Go.RowKit

theorem root_only {v r s : Nat} (h1 : r * r ≤ v) (h2 : v < (r + 1) * (r + 1)) (h3 : s * s ≤ v) (h4 : v < (s + 1) * (s + 1)) : s = r := by
  have k : ∀ p q : Nat, p * p ≤ v → v < (q + 1) * (q + 1) → p ≤ q := fun p q a b => Decidable.byContradiction fun hn => by
    have := Nat.mul_le_mul (show q + 1 ≤ p by omega) (show q + 1 ≤ p by omega)
    omega
  have := k r s h1 h4
  have := k s r h3 h2
  omega
theorem root_word {v r : Nat} (hv : W2 v) (h : r * r ≤ v) : r < 18446744073709551616 := Decidable.byContradiction fun hn => by
  have := Nat.mul_le_mul (show 18446744073709551616 ≤ r by omega) (show 18446744073709551616 ≤ r by omega)
  unfold W2 at hv
  omega
theorem cmp_lt_iff {v u : Nat} (h : v ≤ u) : decide (cmpN v u < 0) = decide (v ≠ u) := by
  unfold cmpN
  by_cases hvu : v = u
  · subst hvu; simp
  · rw [if_pos (by omega)]; simp [hvu]

set_option maxRecDepth 100000 in
set_option maxHeartbeats 2000000 in
theorem roots_any (v : Nat) (w : World) (hv : W2 v) :
    Calls Try.prog 6 #[.agg #[.int .u64 (hi v), .int .u64 (lo v)]] w fun e w' => e = .returned (.bool true) ∧ Below w.heap.size w w' := by
  have CN := hide (fun w => nat_any v w hv)
  have CR := hide (fun w => root_n v w hv)
  have HV4 := hide (show v < pw 4 by rw [pw_4]; exact hv)
  have HV := hide hv
  clear hv
  go_enter Try.func6, Try.ntmps6
  go_wp2_with fail
  refine (awake_any _).mono ?_
  rintro e w1 ⟨rfl, hb1⟩
  obtain ⟨q0, q1⟩ : w1.cell? ⟨w.heap.size, 0, none⟩ = some (.int .u64 (hi v)) ∧ w1.cell? ⟨w.heap.size, 1, none⟩ = some (.int .u64 (lo v)) := keep2 hb1 (by simp) (by simp [go_sem])
  have hz1 : w.heap.size < w1.heap.size := by have := hb1.size; simp at this; omega
  go_wp2_with fail
  refine (unhide CR _).mono ?_
  rintro e w2 ⟨r, rfl, hr1, hr2, hb2⟩
  obtain ⟨r0, r1⟩ := keep2 hb2 hz1 ⟨q0, q1⟩
  have hz2 : w.heap.size < w2.heap.size := by have := hb2.size; omega
  have HLo := hide (lo_small (root_word (unhide HV) hr1))
  have HC := hide (cmp_lt_iff hr1)
  have HRw := hide (show r < pw 2 by rw [pw_2]; exact root_word (unhide HV) hr1)
  generalize decide (r * r ≠ v) = B at *
  have HR1 := hide hr1; have HR2 := hide hr2
  clear hr1 hr2
  go_wp2_with fail
  refine (unhide CN _).mono ?_
  rintro e w3 ⟨s3, rfl, hN3, hb3⟩
  obtain ⟨a3, n3, c3, rfl⟩ := hN3.slice
  have H3 := hide hN3
  clear hN3
  obtain ⟨x0, x1⟩ := keep2 hb3 hz2 ⟨r0, r1⟩
  have hz3 : w.heap.size < w3.heap.size := by have := hb3.size; omega
  go_wp2_with fail
  refine (refRoot_any a3 n3 c3 v _ (unhide H3) (lt_pw (k := 4) 20 (unhide HV4) (by omega))).mono ?_
  rintro e w4 ⟨s4, r', rfl, hN4, hr3, hr4, hb4⟩
  have hrr := root_only (unhide HR1) (unhide HR2) hr3 hr4
  subst hrr
  obtain ⟨a4, n4, c4, rfl⟩ := hN4.slice
  have H4 := hide hN4
  clear hN4
  obtain ⟨y0, y1⟩ := keep2 hb4 hz3 ⟨x0, x1⟩
  have hz4 : w.heap.size < w4.heap.size := by have := hb4.size; omega
  go_wp2_with fail
  have HQ := hide ((unhide H4).below (w' := (w4.alloc (.cells #[.slice a4 n4 c4] 28)).drew) (below1 w4 (.cells #[.slice a4 n4 c4] 28)).drew)
  have HBB := hide ((balloc (bthen (bthen (bthen (bthen (below1 w (.cells #[.int .u64 (hi v), .int .u64 (lo v)] 24)) hb1) hb2) hb3) hb4) (.cells #[.slice a4 n4 c4] 28)).drew)
  obtain ⟨U, hU⟩ : ∃ U, U = r' * r' := ⟨_, rfl⟩
  rw [← hU] at HC
  have HU := hide hU
  clear H4 H3 hU hr3 hr4 HR1 HR2 q0 q1 r0 r1 x0 x1 hb1 hb2 hb3 hb4
  cases B
  · have hcmp : ¬ cmpN U v < 0 := of_decide_eq_false (unhide HC)
    refine wp_region_held_drew (S := fun w' => w'.cell? ⟨w.heap.size, 0, none⟩ = some (.int .u64 (hi v)) ∧ w'.cell? ⟨w.heap.size, 1, none⟩ = some (.int .u64 (lo v)) ∧ w'.cell? ⟨w4.heap.size, 0, none⟩ = some (.slice a4 n4 c4)) (by kernel_rfl) ?_ (fun hHeld => ?_)
    · (try dsimp only)
      simp [go_sem, y0, y1, hz4]
    refine anyH_at #[false, false, false, false, false, false, false, false, false, false, false, false, false, false, false, false] (by kernel_rfl) ?_
    refine wpAnyH_take (i := 0) (oi := { dst := some 16, op := _, type := _, pos := _, after := _, guard := _ }) (v := ?vv0) rfl (by kernel_rfl) (by kernel_rfl) (by kernel_rfl) (fun _ _ _ h => h) (Or.inl ⟨by rfl, ?hy0⟩) (by assumption) ?rest0
    case hy0 => ((intro w hSw; (try dsimp only at hSw); go_simp) <;> with_reducible rfl)
    case rest0 =>
      (try simp only [Act.put, List.setIfInBounds_toArray, List.set_cons_zero, List.set_cons_succ])
      refine anyH_at #[true, false, false, false, false, false, false, false, false, false, false, false, false, false, false, false] (by kernel_rfl) ?_
      refine wpAnyH_take (i := 1) (oi := { dst := some 17, op := _, type := _, pos := _, after := _, guard := _ }) (v := ?vv1) rfl (by kernel_rfl) (by kernel_rfl) (by kernel_rfl) (fun _ _ _ h => h) (Or.inl ⟨by rfl, ?hy1⟩) (by assumption) ?rest1
      case hy1 => ((intro w hSw; (try dsimp only at hSw); go_simp) <;> with_reducible rfl)
      case rest1 =>
        (try simp only [Act.put, List.setIfInBounds_toArray, List.set_cons_zero, List.set_cons_succ])
        refine anyH_at #[true, true, false, false, false, false, false, false, false, false, false, false, false, false, false, false] (by kernel_rfl) ?_
        refine wpAnyH_ready (rs := [2]) (by kernel_rfl) (by simp) ?_
        refine AllReadyH.cons (o := { dst := some 18, op := _, type := _, pos := _, after := _, guard := _ }) rfl (fun Kk hKk => ?_) AllReadyH.nil
        go_simp
        refine (uint_any a4 n4 c4 r' _ (unhide HQ)).mono ?_
        rintro e wa ⟨rfl, hba⟩
        rw [unhide HLo]
        have HBB := hide (bthen (unhide HBB) hba)
        have HQ := hide ((unhide HQ).below hba)
        have hbl := hba
        clear hba
        (try go_wp2_with fail)
        refine hKk.out _ _ ?_ (fun hHeld => ?_)
        · (try dsimp only)
          exact ((stable_cell _ _).and ((stable_cell _ _).and (stable_cell _ _))) _ _ (by assumption) hbl
        clear hKk Kk
        (try simp only [List.setIfInBounds_toArray, List.set_cons_zero, List.set_cons_succ])
        refine anyH_at #[true, true, true, false, false, false, false, false, false, false, false, false, false, false, false, false] (by kernel_rfl) ?_
        refine wpAnyH_take (i := 3) (oi := { dst := some 19, op := _, type := _, pos := _, after := _, guard := _ }) (v := .bool true) rfl (by kernel_rfl) (by kernel_rfl) (by kernel_rfl) (fun _ _ _ h => h) (Or.inl ⟨by rfl, ?hy3⟩) (by assumption) ?rest3
        case hy3 => ((intro w hSw; (try dsimp only at hSw); go_simp) <;> with_reducible rfl)
        case rest3 =>
          (try simp only [Act.put, List.setIfInBounds_toArray, List.set_cons_zero, List.set_cons_succ])
          refine anyH_at #[true, true, true, true, false, false, false, false, false, false, false, false, false, false, false, false] (by kernel_rfl) ?_
          refine wpAnyH_take (i := 4) (oi := { dst := some 20, op := _, type := _, pos := _, after := _, guard := _ }) (v := ?vv4) rfl (by kernel_rfl) (by kernel_rfl) (by kernel_rfl) (fun _ _ _ h => h) (Or.inl ⟨by rfl, ?hy4⟩) (by assumption) ?rest4
          case hy4 => ((intro w hSw; (try dsimp only at hSw); go_simp) <;> with_reducible rfl)
          case rest4 =>
            (try simp only [Act.put, List.setIfInBounds_toArray, List.set_cons_zero, List.set_cons_succ])
            refine anyH_at #[true, true, true, true, true, false, false, false, false, false, false, false, false, false, false, false] (by kernel_rfl) ?_
            refine wpAnyH_take (i := 5) (oi := { dst := some 21, op := _, type := _, pos := _, after := _, guard := _ }) (v := ?vv5) rfl (by kernel_rfl) (by kernel_rfl) (by kernel_rfl) (fun _ _ _ h => h) (Or.inl ⟨by rfl, ?hy5⟩) (by assumption) ?rest5
            case hy5 => ((intro w hSw; (try dsimp only at hSw); go_simp) <;> with_reducible rfl)
            case rest5 =>
              (try simp only [Act.put, List.setIfInBounds_toArray, List.set_cons_zero, List.set_cons_succ])
              refine anyH_at #[true, true, true, true, true, true, false, false, false, false, false, false, false, false, false, false] (by kernel_rfl) ?_
              refine wpAnyH_take (i := 6) (oi := { dst := some 22, op := _, type := _, pos := _, after := _, guard := _ }) (v := ?vv6) rfl (by kernel_rfl) (by kernel_rfl) (by kernel_rfl) (fun _ _ _ h => h) (Or.inl ⟨by rfl, ?hy6⟩) (by assumption) ?rest6
              case hy6 => ((intro w hSw; (try dsimp only at hSw); go_simp) <;> with_reducible rfl)
              case rest6 =>
                (try simp only [Act.put, List.setIfInBounds_toArray, List.set_cons_zero, List.set_cons_succ])
                refine anyH_at #[true, true, true, true, true, true, true, false, false, false, false, false, false, false, false, false] (by kernel_rfl) ?_
                refine wpAnyH_take (i := 7) (oi := { dst := some 23, op := _, type := _, pos := _, after := _, guard := _ }) (v := ?vv7) rfl (by kernel_rfl) (by kernel_rfl) (by kernel_rfl) (fun _ _ _ h => h) (Or.inl ⟨by rfl, ?hy7⟩) (by assumption) ?rest7
                case hy7 => ((intro w hSw; (try dsimp only at hSw); go_simp) <;> with_reducible rfl)
                case rest7 =>
                  (try simp only [Act.put, List.setIfInBounds_toArray, List.set_cons_zero, List.set_cons_succ])
                  refine anyH_at #[true, true, true, true, true, true, true, true, false, false, false, false, false, false, false, false] (by kernel_rfl) ?_
                  refine wpAnyH_take (i := 9) (oi := { dst := some 25, op := _, type := _, pos := _, after := _, guard := _ }) (v := ?vv9) rfl (by kernel_rfl) (by kernel_rfl) (by kernel_rfl) (fun _ _ _ h => h) (Or.inl ⟨by rfl, ?hy9⟩) (by assumption) ?rest9
                  case hy9 => ((intro w hSw; (try dsimp only at hSw); go_simp) <;> with_reducible rfl)
                  case rest9 =>
                    (try simp only [Act.put, List.setIfInBounds_toArray, List.set_cons_zero, List.set_cons_succ])
                    refine anyH_at #[true, true, true, true, true, true, true, true, false, true, false, false, false, false, false, false] (by kernel_rfl) ?_
                    refine wpAnyH_ready (rs := [8]) (by kernel_rfl) (by simp) ?_
                    refine AllReadyH.cons (o := { dst := some 24, op := _, type := _, pos := _, after := _, guard := _ }) rfl (fun Kk hKk => ?_) AllReadyH.nil
                    go_simp
                    refine (refMul_any a4 a4 n4 c4 n4 c4 r' r' _ (unhide HQ) (unhide HQ) (Nat.le_trans ((unhide HQ).short (unhide HRw)) (by omega)) (Nat.le_trans ((unhide HQ).short (unhide HRw)) (by omega))).mono ?_
                    rintro e wb ⟨sb, rfl, hNb, hbb⟩
                    obtain ⟨ab, nb, cb, rfl⟩ := hNb.slice
                    rw [← unhide HU] at hNb
                    have HNb := hide hNb
                    clear hNb
                    have HBB := hide (bthen (unhide HBB) hbb)
                    have HQ := hide ((unhide HQ).below hbb)
                    have hbl := hbb
                    clear hbb
                    (try go_wp2_with fail)
                    refine hKk.out _ _ ?_ (fun hHeld => ?_)
                    · (try dsimp only)
                      exact ((stable_cell _ _).and ((stable_cell _ _).and (stable_cell _ _))) _ _ (by assumption) hbl
                    clear hKk Kk
                    (try simp only [List.setIfInBounds_toArray, List.set_cons_zero, List.set_cons_succ])
                    refine anyH_at #[true, true, true, true, true, true, true, true, true, true, false, false, false, false, false, false] (by kernel_rfl) ?_
                    refine wpAnyH_ready (rs := [10]) (by kernel_rfl) (by simp) ?_
                    refine AllReadyH.cons (o := { dst := some 26, op := _, type := _, pos := _, after := _, guard := _ }) rfl (fun Kk hKk => ?_) AllReadyH.nil
                    go_simp
                    refine (unhide CN _).mono ?_
                    rintro e wc ⟨sc, rfl, hNc, hbc⟩
                    obtain ⟨ac, nc, cc, rfl⟩ := hNc.slice
                    have HNb := hide ((unhide HNb).below hbc)
                    have HNc := hide hNc
                    clear hNc
                    have HBB := hide (bthen (unhide HBB) hbc)
                    have HQ := hide ((unhide HQ).below hbc)
                    have hbl := hbc
                    clear hbc
                    (try go_wp2_with fail)
                    refine hKk.out _ _ ?_ (fun hHeld => ?_)
                    · (try dsimp only)
                      exact ((stable_cell _ _).and ((stable_cell _ _).and (stable_cell _ _))) _ _ (by assumption) hbl
                    clear hKk Kk
                    (try simp only [List.setIfInBounds_toArray, List.set_cons_zero, List.set_cons_succ])
                    refine anyH_at #[true, true, true, true, true, true, true, true, true, true, true, false, false, false, false, false] (by kernel_rfl) ?_
                    refine wpAnyH_ready (rs := [11]) (by kernel_rfl) (by simp) ?_
                    refine AllReadyH.cons (o := { dst := some 27, op := _, type := _, pos := _, after := _, guard := _ }) rfl (fun Kk hKk => ?_) AllReadyH.nil
                    go_simp
                    refine (refCmp_any ab ac nb cb nc cc U v _ (unhide HNb) (unhide HNc)).mono ?_
                    rintro e wd ⟨rfl, hbd⟩
                    have HBB := hide (bthen (unhide HBB) hbd)
                    have HQ := hide ((unhide HQ).below hbd)
                    have hbl := hbd
                    clear hbd
                    (try go_wp2_with fail)
                    refine hKk.out _ _ ?_ (fun hHeld => ?_)
                    · (try dsimp only)
                      exact ((stable_cell _ _).and ((stable_cell _ _).and (stable_cell _ _))) _ _ (by assumption) hbl
                    clear hKk Kk
                    (try simp only [List.setIfInBounds_toArray, List.set_cons_zero, List.set_cons_succ])
                    refine anyH_at #[true, true, true, true, true, true, true, true, true, true, true, true, false, false, false, false] (by kernel_rfl) ?_
                    refine wpAnyH_take (i := 12) (oi := { dst := some 28, op := _, type := _, pos := _, after := _, guard := _ }) (v := .bool false) rfl (by kernel_rfl) (by kernel_rfl) (by kernel_rfl) (fun _ _ _ h => h) (Or.inl ⟨by rfl, ?hy12⟩) (by assumption) ?rest12
                    case hy12 => ((intro w hSw; (try dsimp only at hSw); go_simp) <;> with_reducible rfl)
                    case rest12 =>
                      (try simp only [Act.put, List.setIfInBounds_toArray, List.set_cons_zero, List.set_cons_succ])
                      refine anyH_at #[true, true, true, true, true, true, true, true, true, true, true, true, true, false, false, false] (by kernel_rfl) ?_
                      refine wpAnyH_take (i := 13) (oi := { dst := some 29, op := _, type := _, pos := _, after := _, guard := _ }) (v := .bool true) rfl (by kernel_rfl) (by kernel_rfl) (by kernel_rfl) (fun _ _ _ h => h) (Or.inl ⟨by rfl, ?hy13⟩) (by assumption) ?rest13
                      case hy13 => ((intro w hSw; (try dsimp only at hSw); go_simp) <;> with_reducible rfl)
                      case rest13 =>
                        (try simp only [Act.put, List.setIfInBounds_toArray, List.set_cons_zero, List.set_cons_succ])
                        refine anyH_at #[true, true, true, true, true, true, true, true, true, true, true, true, true, true, false, false] (by kernel_rfl) ?_
                        refine wpAnyH_take (i := 14) (oi := { dst := some 30, op := _, type := _, pos := _, after := _, guard := _ }) (v := ?vv14) rfl (by kernel_rfl) (by kernel_rfl) (by kernel_rfl) (fun _ _ _ h => h) (Or.inl ⟨by rfl, ?hy14⟩) (by assumption) ?rest14
                        case hy14 => ((intro w hSw; (try dsimp only at hSw); go_simp) <;> with_reducible rfl)
                        case rest14 =>
                          (try simp only [Act.put, List.setIfInBounds_toArray, List.set_cons_zero, List.set_cons_succ])
                          refine anyH_at #[true, true, true, true, true, true, true, true, true, true, true, true, true, true, true, false] (by kernel_rfl) ?_
                          refine wpAnyH_take (i := 15) (oi := { dst := some 2, op := _, type := _, pos := _, after := _, guard := _ }) (v := ?vv15) rfl (by kernel_rfl) (by kernel_rfl) (by kernel_rfl) (fun _ _ _ h => h) (Or.inl ⟨by rfl, ?hy15⟩) (by assumption) ?rest15
                          case hy15 => ((intro w hSw; (try dsimp only at hSw); go_simp) <;> with_reducible rfl)
                          case rest15 =>
                            (try simp only [Act.put, List.setIfInBounds_toArray, List.set_cons_zero, List.set_cons_succ])
                            refine anyH_at #[true, true, true, true, true, true, true, true, true, true, true, true, true, true, true, true] (by kernel_rfl) ?_
                            refine wpAnyH_done (by kernel_rfl) ?_ _
                            go_wp2
                            go_ret
                            exact ⟨rfl, unhide HBB⟩
  · have hcmp : cmpN U v < 0 := of_decide_eq_true (unhide HC)
    refine wp_region_held_drew (S := fun w' => w'.cell? ⟨w.heap.size, 0, none⟩ = some (.int .u64 (hi v)) ∧ w'.cell? ⟨w.heap.size, 1, none⟩ = some (.int .u64 (lo v)) ∧ w'.cell? ⟨w4.heap.size, 0, none⟩ = some (.slice a4 n4 c4)) (by kernel_rfl) ?_ (fun hHeld => ?_)
    · (try dsimp only)
      simp [go_sem, y0, y1, hz4]
    refine anyH_at #[false, false, false, false, false, false, false, false, false, false, false, false, false, false, false, false] (by kernel_rfl) ?_
    refine wpAnyH_take (i := 0) (oi := { dst := some 16, op := _, type := _, pos := _, after := _, guard := _ }) (v := ?vv0b) rfl (by kernel_rfl) (by kernel_rfl) (by kernel_rfl) (fun _ _ _ h => h) (Or.inl ⟨by rfl, ?hy0b⟩) (by assumption) ?rest0b
    case hy0b => ((intro w hSw; (try dsimp only at hSw); go_simp) <;> with_reducible rfl)
    case rest0b =>
      (try simp only [Act.put, List.setIfInBounds_toArray, List.set_cons_zero, List.set_cons_succ])
      refine anyH_at #[true, false, false, false, false, false, false, false, false, false, false, false, false, false, false, false] (by kernel_rfl) ?_
      refine wpAnyH_take (i := 1) (oi := { dst := some 17, op := _, type := _, pos := _, after := _, guard := _ }) (v := ?vv1b) rfl (by kernel_rfl) (by kernel_rfl) (by kernel_rfl) (fun _ _ _ h => h) (Or.inl ⟨by rfl, ?hy1b⟩) (by assumption) ?rest1b
      case hy1b => ((intro w hSw; (try dsimp only at hSw); go_simp) <;> with_reducible rfl)
      case rest1b =>
        (try simp only [Act.put, List.setIfInBounds_toArray, List.set_cons_zero, List.set_cons_succ])
        refine anyH_at #[true, true, false, false, false, false, false, false, false, false, false, false, false, false, false, false] (by kernel_rfl) ?_
        refine wpAnyH_ready (rs := [2]) (by kernel_rfl) (by simp) ?_
        refine AllReadyH.cons (o := { dst := some 18, op := _, type := _, pos := _, after := _, guard := _ }) rfl (fun Kk hKk => ?_) AllReadyH.nil
        go_simp
        refine (uint_any a4 n4 c4 r' _ (unhide HQ)).mono ?_
        rintro e wa ⟨rfl, hba⟩
        rw [unhide HLo]
        have HBB := hide (bthen (unhide HBB) hba)
        have HQ := hide ((unhide HQ).below hba)
        have hbl := hba
        clear hba
        (try go_wp2_with fail)
        refine hKk.out _ _ ?_ (fun hHeld => ?_)
        · (try dsimp only)
          exact ((stable_cell _ _).and ((stable_cell _ _).and (stable_cell _ _))) _ _ (by assumption) hbl
        clear hKk Kk
        (try simp only [List.setIfInBounds_toArray, List.set_cons_zero, List.set_cons_succ])
        refine anyH_at #[true, true, true, false, false, false, false, false, false, false, false, false, false, false, false, false] (by kernel_rfl) ?_
        refine wpAnyH_take (i := 3) (oi := { dst := some 19, op := _, type := _, pos := _, after := _, guard := _ }) (v := .bool true) rfl (by kernel_rfl) (by kernel_rfl) (by kernel_rfl) (fun _ _ _ h => h) (Or.inl ⟨by rfl, ?hy3b⟩) (by assumption) ?rest3b
        case hy3b => ((intro w hSw; (try dsimp only at hSw); go_simp) <;> with_reducible rfl)
        case rest3b =>
          (try simp only [Act.put, List.setIfInBounds_toArray, List.set_cons_zero, List.set_cons_succ])
          refine anyH_at #[true, true, true, true, false, false, false, false, false, false, false, false, false, false, false, false] (by kernel_rfl) ?_
          refine wpAnyH_take (i := 4) (oi := { dst := some 20, op := _, type := _, pos := _, after := _, guard := _ }) (v := ?vv4b) rfl (by kernel_rfl) (by kernel_rfl) (by kernel_rfl) (fun _ _ _ h => h) (Or.inl ⟨by rfl, ?hy4b⟩) (by assumption) ?rest4b
          case hy4b => ((intro w hSw; (try dsimp only at hSw); go_simp) <;> with_reducible rfl)
          case rest4b =>
            (try simp only [Act.put, List.setIfInBounds_toArray, List.set_cons_zero, List.set_cons_succ])
            refine anyH_at #[true, true, true, true, true, false, false, false, false, false, false, false, false, false, false, false] (by kernel_rfl) ?_
            refine wpAnyH_take (i := 5) (oi := { dst := some 21, op := _, type := _, pos := _, after := _, guard := _ }) (v := ?vv5b) rfl (by kernel_rfl) (by kernel_rfl) (by kernel_rfl) (fun _ _ _ h => h) (Or.inl ⟨by rfl, ?hy5b⟩) (by assumption) ?rest5b
            case hy5b => ((intro w hSw; (try dsimp only at hSw); go_simp) <;> with_reducible rfl)
            case rest5b =>
              (try simp only [Act.put, List.setIfInBounds_toArray, List.set_cons_zero, List.set_cons_succ])
              refine anyH_at #[true, true, true, true, true, true, false, false, false, false, false, false, false, false, false, false] (by kernel_rfl) ?_
              refine wpAnyH_take (i := 6) (oi := { dst := some 22, op := _, type := _, pos := _, after := _, guard := _ }) (v := ?vv6b) rfl (by kernel_rfl) (by kernel_rfl) (by kernel_rfl) (fun _ _ _ h => h) (Or.inl ⟨by rfl, ?hy6b⟩) (by assumption) ?rest6b
              case hy6b => ((intro w hSw; (try dsimp only at hSw); go_simp) <;> with_reducible rfl)
              case rest6b =>
                (try simp only [Act.put, List.setIfInBounds_toArray, List.set_cons_zero, List.set_cons_succ])
                refine anyH_at #[true, true, true, true, true, true, true, false, false, false, false, false, false, false, false, false] (by kernel_rfl) ?_
                refine wpAnyH_take (i := 7) (oi := { dst := some 23, op := _, type := _, pos := _, after := _, guard := _ }) (v := ?vv7b) rfl (by kernel_rfl) (by kernel_rfl) (by kernel_rfl) (fun _ _ _ h => h) (Or.inl ⟨by rfl, ?hy7b⟩) (by assumption) ?rest7b
                case hy7b => ((intro w hSw; (try dsimp only at hSw); go_simp) <;> with_reducible rfl)
                case rest7b =>
                  (try simp only [Act.put, List.setIfInBounds_toArray, List.set_cons_zero, List.set_cons_succ])
                  refine anyH_at #[true, true, true, true, true, true, true, true, false, false, false, false, false, false, false, false] (by kernel_rfl) ?_
                  refine wpAnyH_take (i := 9) (oi := { dst := some 25, op := _, type := _, pos := _, after := _, guard := _ }) (v := ?vv9b) rfl (by kernel_rfl) (by kernel_rfl) (by kernel_rfl) (fun _ _ _ h => h) (Or.inl ⟨by rfl, ?hy9b⟩) (by assumption) ?rest9b
                  case hy9b => ((intro w hSw; (try dsimp only at hSw); go_simp) <;> with_reducible rfl)
                  case rest9b =>
                    (try simp only [Act.put, List.setIfInBounds_toArray, List.set_cons_zero, List.set_cons_succ])
                    refine anyH_at #[true, true, true, true, true, true, true, true, false, true, false, false, false, false, false, false] (by kernel_rfl) ?_
                    refine wpAnyH_ready (rs := [8]) (by kernel_rfl) (by simp) ?_
                    refine AllReadyH.cons (o := { dst := some 24, op := _, type := _, pos := _, after := _, guard := _ }) rfl (fun Kk hKk => ?_) AllReadyH.nil
                    go_simp
                    refine (refMul_any a4 a4 n4 c4 n4 c4 r' r' _ (unhide HQ) (unhide HQ) (Nat.le_trans ((unhide HQ).short (unhide HRw)) (by omega)) (Nat.le_trans ((unhide HQ).short (unhide HRw)) (by omega))).mono ?_
                    rintro e wb ⟨sb, rfl, hNb, hbb⟩
                    obtain ⟨ab, nb, cb, rfl⟩ := hNb.slice
                    rw [← unhide HU] at hNb
                    have HNb := hide hNb
                    clear hNb
                    have HBB := hide (bthen (unhide HBB) hbb)
                    have HQ := hide ((unhide HQ).below hbb)
                    have hbl := hbb
                    clear hbb
                    (try go_wp2_with fail)
                    refine hKk.out _ _ ?_ (fun hHeld => ?_)
                    · (try dsimp only)
                      exact ((stable_cell _ _).and ((stable_cell _ _).and (stable_cell _ _))) _ _ (by assumption) hbl
                    clear hKk Kk
                    (try simp only [List.setIfInBounds_toArray, List.set_cons_zero, List.set_cons_succ])
                    refine anyH_at #[true, true, true, true, true, true, true, true, true, true, false, false, false, false, false, false] (by kernel_rfl) ?_
                    refine wpAnyH_ready (rs := [10]) (by kernel_rfl) (by simp) ?_
                    refine AllReadyH.cons (o := { dst := some 26, op := _, type := _, pos := _, after := _, guard := _ }) rfl (fun Kk hKk => ?_) AllReadyH.nil
                    go_simp
                    refine (unhide CN _).mono ?_
                    rintro e wc ⟨sc, rfl, hNc, hbc⟩
                    obtain ⟨ac, nc, cc, rfl⟩ := hNc.slice
                    have HNb := hide ((unhide HNb).below hbc)
                    have HNc := hide hNc
                    clear hNc
                    have HBB := hide (bthen (unhide HBB) hbc)
                    have HQ := hide ((unhide HQ).below hbc)
                    have hbl := hbc
                    clear hbc
                    (try go_wp2_with fail)
                    refine hKk.out _ _ ?_ (fun hHeld => ?_)
                    · (try dsimp only)
                      exact ((stable_cell _ _).and ((stable_cell _ _).and (stable_cell _ _))) _ _ (by assumption) hbl
                    clear hKk Kk
                    (try simp only [List.setIfInBounds_toArray, List.set_cons_zero, List.set_cons_succ])
                    refine anyH_at #[true, true, true, true, true, true, true, true, true, true, true, false, false, false, false, false] (by kernel_rfl) ?_
                    refine wpAnyH_ready (rs := [11]) (by kernel_rfl) (by simp) ?_
                    refine AllReadyH.cons (o := { dst := some 27, op := _, type := _, pos := _, after := _, guard := _ }) rfl (fun Kk hKk => ?_) AllReadyH.nil
                    go_simp
                    refine (refCmp_any ab ac nb cb nc cc U v _ (unhide HNb) (unhide HNc)).mono ?_
                    rintro e wd ⟨rfl, hbd⟩
                    have HBB := hide (bthen (unhide HBB) hbd)
                    have HQ := hide ((unhide HQ).below hbd)
                    have hbl := hbd
                    clear hbd
                    (try go_wp2_with fail)
                    refine hKk.out _ _ ?_ (fun hHeld => ?_)
                    · (try dsimp only)
                      exact ((stable_cell _ _).and ((stable_cell _ _).and (stable_cell _ _))) _ _ (by assumption) hbl
                    clear hKk Kk
                    (try simp only [List.setIfInBounds_toArray, List.set_cons_zero, List.set_cons_succ])
                    refine anyH_at #[true, true, true, true, true, true, true, true, true, true, true, true, false, false, false, false] (by kernel_rfl) ?_
                    refine wpAnyH_take (i := 12) (oi := { dst := some 28, op := _, type := _, pos := _, after := _, guard := _ }) (v := .bool true) rfl (by kernel_rfl) (by kernel_rfl) (by kernel_rfl) (fun _ _ _ h => h) (Or.inl ⟨by rfl, ?hy12b⟩) (by assumption) ?rest12b
                    case hy12b => ((intro w hSw; (try dsimp only at hSw); go_simp) <;> with_reducible rfl)
                    case rest12b =>
                      (try simp only [Act.put, List.setIfInBounds_toArray, List.set_cons_zero, List.set_cons_succ])
                      refine anyH_at #[true, true, true, true, true, true, true, true, true, true, true, true, true, false, false, false] (by kernel_rfl) ?_
                      refine wpAnyH_take (i := 13) (oi := { dst := some 29, op := _, type := _, pos := _, after := _, guard := _ }) (v := .bool true) rfl (by kernel_rfl) (by kernel_rfl) (by kernel_rfl) (fun _ _ _ h => h) (Or.inl ⟨by rfl, ?hy13b⟩) (by assumption) ?rest13b
                      case hy13b => ((intro w hSw; (try dsimp only at hSw); go_simp) <;> with_reducible rfl)
                      case rest13b =>
                        (try simp only [Act.put, List.setIfInBounds_toArray, List.set_cons_zero, List.set_cons_succ])
                        refine anyH_at #[true, true, true, true, true, true, true, true, true, true, true, true, true, true, false, false] (by kernel_rfl) ?_
                        refine wpAnyH_take (i := 14) (oi := { dst := some 30, op := _, type := _, pos := _, after := _, guard := _ }) (v := ?vv14b) rfl (by kernel_rfl) (by kernel_rfl) (by kernel_rfl) (fun _ _ _ h => h) (Or.inl ⟨by rfl, ?hy14b⟩) (by assumption) ?rest14b
                        case hy14b => ((intro w hSw; (try dsimp only at hSw); go_simp) <;> with_reducible rfl)
                        case rest14b =>
                          (try simp only [Act.put, List.setIfInBounds_toArray, List.set_cons_zero, List.set_cons_succ])
                          refine anyH_at #[true, true, true, true, true, true, true, true, true, true, true, true, true, true, true, false] (by kernel_rfl) ?_
                          refine wpAnyH_take (i := 15) (oi := { dst := some 2, op := _, type := _, pos := _, after := _, guard := _ }) (v := ?vv15b) rfl (by kernel_rfl) (by kernel_rfl) (by kernel_rfl) (fun _ _ _ h => h) (Or.inl ⟨by rfl, ?hy15b⟩) (by assumption) ?rest15b
                          case hy15b => ((intro w hSw; (try dsimp only at hSw); go_simp) <;> with_reducible rfl)
                          case rest15b =>
                            (try simp only [Act.put, List.setIfInBounds_toArray, List.set_cons_zero, List.set_cons_succ])
                            refine anyH_at #[true, true, true, true, true, true, true, true, true, true, true, true, true, true, true, true] (by kernel_rfl) ?_
                            refine wpAnyH_done (by kernel_rfl) ?_ _
                            go_wp2
                            go_ret
                            exact ⟨rfl, unhide HBB⟩

end Go.Proofs.Ytifacdihhhcmnaa
