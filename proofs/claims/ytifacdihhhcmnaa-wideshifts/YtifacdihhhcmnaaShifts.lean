/- The statement WideShifts: its walk. -/
import Derived.Test.YtifacdihhhcmnaaRefJ
import Derived.Deep.CutBlock
import Derived.Deep.DeepCutAuto
import Derived.Deep.Light
namespace Go.Proofs.Ytifacdihhhcmnaa
open Go.RowKit

/-- How far the reference shifts, of a shift by n. -/
def ShiftTo (n : Int) (K : Nat) : Prop := (n < 0 ∧ K = 0) ∨ (0 ≤ n ∧ n ≤ 300 ∧ (K : Int) = n) ∨ (300 < n ∧ K = 300)
theorem shiftTo_ex (n : Int) : ∃ K, ShiftTo n K := by
  by_cases h1 : n < 0
  · exact ⟨0, Or.inl ⟨h1, rfl⟩⟩
  · by_cases h2 : n ≤ 300
    · exact ⟨n.toNat, Or.inr (Or.inl ⟨by omega, h2, by omega⟩)⟩
    · exact ⟨300, Or.inr (Or.inr ⟨by omega, rfl⟩)⟩
theorem shiftTo_le {n : Int} {K : Nat} (h : ShiftTo n K) : K ≤ 300 := by rcases h with h | h | h <;> omega
theorem shiftTo_same {n : Int} {K : Nat} (h : ShiftTo n K) : n.toNat = K ∨ (128 ≤ K ∧ 128 ≤ n.toNat) := by rcases h with h | h | h <;> omega

theorem shl_far {v k : Nat} (h : 128 ≤ k) : v * 2 ^ k % 340282366920938463463374607431768211456 = 0 := by
  have : (2 : Nat) ^ k = 2 ^ (k - 128) * 340282366920938463463374607431768211456 := by
    rw [show (340282366920938463463374607431768211456 : Nat) = 2 ^ 128 from rfl, ← Nat.pow_add, show k - 128 + 128 = k by omega]
  rw [this, ← Nat.mul_assoc, Nat.mul_mod_left]
theorem lt_far {v k : Nat} (hv : W2 v) (h : 128 ≤ k) : v < 2 ^ k := Nat.lt_of_lt_of_le hv (Nat.pow_le_pow_right (show 0 < 2 by omega) h)
theorem shlN_to {n : Int} {K : Nat} (v : Nat) (h : ShiftTo n K) : v * 2 ^ K % 340282366920938463463374607431768211456 = shlN v n := by
  unfold shlN
  rcases shiftTo_same h with h | ⟨h1, h2⟩
  · rw [h]
  · rw [shl_far h1, shl_far h2]
theorem shrN_to {n : Int} {K : Nat} {v : Nat} (hv : W2 v) (h : ShiftTo n K) : v / 2 ^ K = shrN v n := by
  unfold shrN
  rcases shiftTo_same h with h | ⟨h1, h2⟩
  · rw [h]
  · rw [Nat.div_eq_of_lt (lt_far hv h1), Nat.div_eq_of_lt (lt_far hv h2)]
theorem lostB_to {n : Int} {K : Nat} {v : Nat} (hv : W2 v) (h : ShiftTo n K) : decide (v % 2 ^ K ≠ 0) = lostB v n := by
  unfold lostB
  rcases shiftTo_same h with h | ⟨h1, h2⟩
  · rw [h]
  · rw [Nat.mod_eq_of_lt (lt_far hv h1), Nat.mod_eq_of_lt (lt_far hv h2)]

/-- The cells that the last region reads. -/
def Shelf (N M R : Nat) (v r : Nat) (s : Value) (w' : World) : Prop :=
  w'.cell? ⟨N, 0, none⟩ = some (.int .u64 (hi v)) ∧ w'.cell? ⟨N, 1, none⟩ = some (.int .u64 (lo v)) ∧ w'.cell? ⟨M, 0, none⟩ = some (.int .u64 (hi r)) ∧ w'.cell? ⟨M, 1, none⟩ = some (.int .u64 (lo r)) ∧ w'.cell? ⟨R, 0, none⟩ = some s
theorem stable_shelf (N M R : Nat) (v r : Nat) (s : Value) : Stable (fun w' => w'.cell? ⟨N, 0, none⟩ = some (.int .u64 (hi v)) ∧ w'.cell? ⟨N, 1, none⟩ = some (.int .u64 (lo v)) ∧ w'.cell? ⟨M, 0, none⟩ = some (.int .u64 (hi r)) ∧ w'.cell? ⟨M, 1, none⟩ = some (.int .u64 (lo r)) ∧ w'.cell? ⟨R, 0, none⟩ = some s) :=
  (stable_cell _ _).and ((stable_cell _ _).and ((stable_cell _ _).and ((stable_cell _ _).and (stable_cell _ _))))

set_option maxRecDepth 100000 in
set_option maxHeartbeats 4000000 in
theorem shifts_any (v : Nat) (n : Int) (w : World) (hv : W2 v) :
    Calls Try.prog 4 #[.agg #[.int .u64 (hi v), .int .u64 (lo v)], .int .i64 n] w fun e w' => e = .returned (.bool true) ∧ Below w.heap.size w w' := by
  obtain ⟨K, hK⟩ := shiftTo_ex n
  have hK3 := shiftTo_le hK
  have HLK := hide (shlN_to v hK); have HRK := hide (shrN_to hv hK); have HBK := hide (lostB_to hv hK)
  have HLw := hide (shlN_w v n); have HRw := hide (shrN_w n hv)
  have CL := hide (fun w => left_n v n w hv)
  have CR := hide (fun w => right_n v n w hv)
  have CN := hide (fun w => nat_any v w hv)
  have CE := hide (fun w => len_n v w hv)
  have HV4 := hide (show v < pw 4 by rw [pw_4]; exact hv)
  generalize shlN v n = L at HLK HLw CL
  generalize shrN v n = R at HRK HRw CR
  generalize lostB v n = B at HBK CR
  have HK := hide hK
  clear hK hv
  go_enter Try.func4, Try.ntmps4
  go_wp2_with fail
  refine (awake_any _).mono ?_
  rintro e w1 ⟨rfl, hb1⟩
  obtain ⟨q0, q1⟩ : w1.cell? ⟨w.heap.size, 0, none⟩ = some (.int .u64 (hi v)) ∧ w1.cell? ⟨w.heap.size, 1, none⟩ = some (.int .u64 (lo v)) := keep2 hb1 (by simp) (by simp [go_sem])
  have hz1 : w.heap.size < w1.heap.size := by have := hb1.size; simp at this; omega
  go_upto_region 3 with fail
  go_cut [5] (fun p5 wc => p5 = .int .i64 (K : Int) ∧ wc = w1)
  case first =>
    rcases unhide HK with ⟨k1, rfl⟩ | ⟨k1, k2, k3⟩ | ⟨k1, rfl⟩
    · go_wp2_with fail
      go_meet
      case rel => exact ⟨rfl, rfl⟩
    · go_wp2_with fail
      go_meet
      case rel => exact ⟨by rw [k3], rfl⟩
    · go_wp2_with fail
      go_meet
      case rel => exact ⟨rfl, rfl⟩
  case rest =>
    obtain ⟨rfl, rfl⟩ := hcut
    go_wp2_with fail
    refine (unhide CR _).mono ?_
    rintro e w2 ⟨rfl, hb2⟩
    obtain ⟨r0, r1⟩ := keep2 hb2 hz1 ⟨q0, q1⟩
    have hz2 : w.heap.size < w2.heap.size := by have := hb2.size; omega
    go_wp2_with fail
    refine (unhide CN _).mono ?_
    rintro e w3 ⟨s3, rfl, hN3, hb3⟩
    obtain ⟨a3, n3, c3, rfl⟩ := hN3.slice
    have H3 := hide hN3
    clear hN3
    obtain ⟨x0, x1⟩ := keep2 hb3 (b := w.heap.size) (x := .int .u64 (hi v)) (y := .int .u64 (lo v)) (by simp; omega) ⟨by simp [go_sem, r0, hz2], by simp [go_sem, r1, hz2]⟩
    obtain ⟨y0, y1⟩ := keep2 hb3 (b := w2.heap.size) (x := .int .u64 (hi R)) (y := .int .u64 (lo R)) (by simp) ⟨by simp [go_sem], by simp [go_sem]⟩
    have hz3 : w2.heap.size < w3.heap.size := by have := hb3.size; simp at this; omega
    go_wp2_with fail
    refine (half_any a3 n3 c3 v K _ (unhide H3) (lt_pw (k := 4) 20 (unhide HV4) (by omega)) (by omega)).mono ?_
    rintro e w4 ⟨s4, rfl, hN4, hb4⟩
    rw [unhide HRK] at hN4
    rw [unhide HBK]
    obtain ⟨a4, n4, c4, rfl⟩ := hN4.slice
    have H4 := hide (hN4.alloc (.cells #[.slice a4 n4 c4] 28))
    clear hN4
    obtain ⟨u0, u1⟩ := keep2 hb4 (by omega) ⟨x0, x1⟩
    obtain ⟨t0, t1⟩ := keep2 hb4 (by omega) ⟨y0, y1⟩
    have hz4 : w2.heap.size < w4.heap.size := by have := hb4.size; omega
    have HBB := hide (bthen (bthen (balloc (bthen (bthen (below1 w (.cells #[.int .u64 (hi v), .int .u64 (lo v)] 24)) hb1) hb2) (.cells #[.int .u64 (hi R), .int .u64 (lo R)] 24)) hb3) hb4)
    clear hb1 hb2 hb3 hb4 q0 q1 r0 r1 x0 x1 y0 y1 H3 HK
    go_wp2_with fail
    have HQ := hide ((unhide H4).below (w' := (w4.alloc (.cells #[.slice a4 n4 c4] 28)).drew) ((Below.refl _ _).drew))
    have HBB := hide ((balloc (unhide HBB) (.cells #[.slice a4 n4 c4] 28)).drew)
    have hz0 : w.heap.size < w4.heap.size := by omega
    clear H4
    refine wp_region_held_drew (S := fun w' => w'.cell? ⟨w.heap.size, 0, none⟩ = some (.int .u64 (hi v)) ∧ w'.cell? ⟨w.heap.size, 1, none⟩ = some (.int .u64 (lo v)) ∧ w'.cell? ⟨w2.heap.size, 0, none⟩ = some (.int .u64 (hi R)) ∧ w'.cell? ⟨w2.heap.size, 1, none⟩ = some (.int .u64 (lo R)) ∧ w'.cell? ⟨w4.heap.size, 0, none⟩ = some (.slice a4 n4 c4)) (by kernel_rfl) ?_ (fun hHeld => ?_)
    · (try dsimp only)
      simp [go_sem, u0, u1, t0, t1, hz0, hz4]
    refine anyH_at #[false, false, false, false, false, false, false, false, false, false, false, false, false, false, false, false, false, false, false, false, false, false, false, false, false, false, false, false] (by kernel_rfl) ?_
    refine wpAnyH_take (i := 0) (oi := { dst := some 28, op := _, type := _, pos := _, after := _, guard := _ }) (v := ?vv0) rfl (by kernel_rfl) (by kernel_rfl) (by kernel_rfl) (fun _ _ _ h => h) (Or.inl ⟨by rfl, ?hy0⟩) (by assumption) ?rest0
    case hy0 => ((intro w hSw; (try dsimp only at hSw); go_simp) <;> with_reducible rfl)
    case rest0 =>
      (try simp only [Act.put, List.setIfInBounds_toArray, List.set_cons_zero, List.set_cons_succ])
      refine anyH_at #[true, false, false, false, false, false, false, false, false, false, false, false, false, false, false, false, false, false, false, false, false, false, false, false, false, false, false, false] (by kernel_rfl) ?_
      refine wpAnyH_take (i := 1) (oi := { dst := some 29, op := _, type := _, pos := _, after := _, guard := _ }) (v := ?vv1) rfl (by kernel_rfl) (by kernel_rfl) (by kernel_rfl) (fun _ _ _ h => h) (Or.inl ⟨by rfl, ?hy1⟩) (by assumption) ?rest1
      case hy1 => ((intro w hSw; (try dsimp only at hSw); go_simp) <;> with_reducible rfl)
      case rest1 =>
        (try simp only [Act.put, List.setIfInBounds_toArray, List.set_cons_zero, List.set_cons_succ])
        refine anyH_at #[true, true, false, false, false, false, false, false, false, false, false, false, false, false, false, false, false, false, false, false, false, false, false, false, false, false, false, false] (by kernel_rfl) ?_
        refine wpAnyH_take (i := 3) (oi := { dst := some 31, op := _, type := _, pos := _, after := _, guard := _ }) (v := ?vv3) rfl (by kernel_rfl) (by kernel_rfl) (by kernel_rfl) (fun _ _ _ h => h) (Or.inl ⟨by rfl, ?hy3⟩) (by assumption) ?rest3
        case hy3 => ((intro w hSw; (try dsimp only at hSw); go_simp) <;> with_reducible rfl)
        case rest3 =>
          (try simp only [Act.put, List.setIfInBounds_toArray, List.set_cons_zero, List.set_cons_succ])
          refine anyH_at #[true, true, false, true, false, false, false, false, false, false, false, false, false, false, false, false, false, false, false, false, false, false, false, false, false, false, false, false] (by kernel_rfl) ?_
          refine wpAnyH_take (i := 5) (oi := { dst := some 33, op := _, type := _, pos := _, after := _, guard := _ }) (v := ?vv5) rfl (by kernel_rfl) (by kernel_rfl) (by kernel_rfl) (fun _ _ _ h => h) (Or.inl ⟨by rfl, ?hy5⟩) (by assumption) ?rest5
          case hy5 => ((intro w hSw; (try dsimp only at hSw); go_simp) <;> with_reducible rfl)
          case rest5 =>
            (try simp only [Act.put, List.setIfInBounds_toArray, List.set_cons_zero, List.set_cons_succ])
            refine anyH_at #[true, true, false, true, false, true, false, false, false, false, false, false, false, false, false, false, false, false, false, false, false, false, false, false, false, false, false, false] (by kernel_rfl) ?_
            refine wpAnyH_ready (rs := [2]) (by kernel_rfl) (by simp) ?_
            refine AllReadyH.cons (o := { dst := some 30, op := _, type := _, pos := _, after := _, guard := _ }) rfl (fun Kk hKk => ?_) AllReadyH.nil
            go_simp
            refine (unhide CL _).mono ?_
            rintro e wa ⟨rfl, hba⟩
            have HBB := hide (bthen (unhide HBB) hba)
            have HQ := hide ((unhide HQ).below hba)
            have hbl := hba
            clear hba
            (try go_wp2_with fail)
            refine hKk.out _ _ ?_ (fun hHeld => ?_)
            · (try dsimp only)
              exact stable_shelf _ _ _ _ _ _ _ _ (by assumption) hbl
            clear hKk Kk
            (try simp only [List.setIfInBounds_toArray, List.set_cons_zero, List.set_cons_succ])
            refine anyH_at #[true, true, true, true, false, true, false, false, false, false, false, false, false, false, false, false, false, false, false, false, false, false, false, false, false, false, false, false] (by kernel_rfl) ?_
            refine wpAnyH_ready (rs := [4]) (by kernel_rfl) (by simp) ?_
            refine AllReadyH.cons (o := { dst := some 32, op := _, type := _, pos := _, after := _, guard := _ }) rfl (fun Kk hKk => ?_) AllReadyH.nil
            go_simp
            refine (unhide CN _).mono ?_
            rintro e wb ⟨sb, rfl, hNb, hbb⟩
            obtain ⟨ab, nb, cb, rfl⟩ := hNb.slice
            have HNb := hide hNb
            clear hNb
            have HBB := hide (bthen (unhide HBB) hbb)
            have HQ := hide ((unhide HQ).below hbb)
            have hbl := hbb
            clear hbb
            (try go_wp2_with fail)
            refine hKk.out _ _ ?_ (fun hHeld => ?_)
            · (try dsimp only)
              exact stable_shelf _ _ _ _ _ _ _ _ (by assumption) hbl
            clear hKk Kk
            (try simp only [List.setIfInBounds_toArray, List.set_cons_zero, List.set_cons_succ])
            refine anyH_at #[true, true, true, true, true, true, false, false, false, false, false, false, false, false, false, false, false, false, false, false, false, false, false, false, false, false, false, false] (by kernel_rfl) ?_
            refine wpAnyH_ready (rs := [6]) (by kernel_rfl) (by simp) ?_
            refine AllReadyH.cons (o := { dst := some 34, op := _, type := _, pos := _, after := _, guard := _ }) rfl (fun Kk hKk => ?_) AllReadyH.nil
            go_simp
            refine (refShl_any ab nb cb v K _ (unhide HNb) (Nat.le_trans ((unhide HNb).short (unhide HV4)) (by omega)) (by omega)).mono ?_
            rintro e wd ⟨sd, rfl, hNd, hbd⟩
            obtain ⟨ad, nd, cd, rfl⟩ := hNd.slice
            have HNd := hide hNd
            clear hNd
            have HBB := hide (bthen (unhide HBB) hbd)
            have HQ := hide ((unhide HQ).below hbd)
            have hbl := hbd
            clear hbd
            (try go_wp2_with fail)
            refine hKk.out _ _ ?_ (fun hHeld => ?_)
            · (try dsimp only)
              exact stable_shelf _ _ _ _ _ _ _ _ (by assumption) hbl
            clear hKk Kk
            (try simp only [List.setIfInBounds_toArray, List.set_cons_zero, List.set_cons_succ])
            refine anyH_at #[true, true, true, true, true, true, true, false, false, false, false, false, false, false, false, false, false, false, false, false, false, false, false, false, false, false, false, false] (by kernel_rfl) ?_
            refine wpAnyH_ready (rs := [7]) (by kernel_rfl) (by simp) ?_
            refine AllReadyH.cons (o := { dst := some 35, op := _, type := _, pos := _, after := _, guard := _ }) rfl (fun Kk hKk => ?_) AllReadyH.nil
            go_simp
            refine (refMod_any ad nd cd (v * 2 ^ K) _ (unhide HNd)).mono ?_
            rintro e we ⟨se, rfl, hNe, hbe⟩
            rw [unhide HLK] at hNe
            obtain ⟨ae, ne, ce, rfl⟩ := hNe.slice
            have HNe := hide hNe
            clear hNe
            have HBB := hide (bthen (unhide HBB) hbe)
            have HQ := hide ((unhide HQ).below hbe)
            have hbl := hbe
            clear hbe
            (try go_wp2_with fail)
            refine hKk.out _ _ ?_ (fun hHeld => ?_)
            · (try dsimp only)
              exact stable_shelf _ _ _ _ _ _ _ _ (by assumption) hbl
            clear hKk Kk
            (try simp only [List.setIfInBounds_toArray, List.set_cons_zero, List.set_cons_succ])
            refine anyH_at #[true, true, true, true, true, true, true, true, false, false, false, false, false, false, false, false, false, false, false, false, false, false, false, false, false, false, false, false] (by kernel_rfl) ?_
            refine wpAnyH_ready (rs := [8]) (by kernel_rfl) (by simp) ?_
            refine AllReadyH.cons (o := { dst := some 36, op := _, type := _, pos := _, after := _, guard := _ }) rfl (fun Kk hKk => ?_) AllReadyH.nil
            go_simp
            refine (is_any ae ne ce L _ (unhide HNe) (unhide HLw)).mono ?_
            rintro e wf ⟨rfl, hbf⟩
            have HBB := hide (bthen (unhide HBB) hbf)
            have HQ := hide ((unhide HQ).below hbf)
            have hbl := hbf
            clear hbf
            (try go_wp2_with fail)
            refine hKk.out _ _ ?_ (fun hHeld => ?_)
            · (try dsimp only)
              exact stable_shelf _ _ _ _ _ _ _ _ (by assumption) hbl
            clear hKk Kk
            (try simp only [List.setIfInBounds_toArray, List.set_cons_zero, List.set_cons_succ])
            refine anyH_at #[true, true, true, true, true, true, true, true, true, false, false, false, false, false, false, false, false, false, false, false, false, false, false, false, false, false, false, false] (by kernel_rfl) ?_
            refine wpAnyH_take (i := 9) (oi := { dst := some 37, op := _, type := _, pos := _, after := _, guard := _ }) (v := ?vv9) rfl (by kernel_rfl) (by kernel_rfl) (by kernel_rfl) (fun _ _ _ h => h) (Or.inl ⟨by rfl, ?hy9⟩) (by assumption) ?rest9
            case hy9 => ((intro w hSw; (try dsimp only at hSw); go_simp) <;> with_reducible rfl)
            case rest9 =>
              (try simp only [Act.put, List.setIfInBounds_toArray, List.set_cons_zero, List.set_cons_succ])
              refine anyH_at #[true, true, true, true, true, true, true, true, true, true, false, false, false, false, false, false, false, false, false, false, false, false, false, false, false, false, false, false] (by kernel_rfl) ?_
              refine wpAnyH_take (i := 10) (oi := { dst := some 38, op := _, type := _, pos := _, after := _, guard := _ }) (v := ?vv10) rfl (by kernel_rfl) (by kernel_rfl) (by kernel_rfl) (fun _ _ _ h => h) (Or.inl ⟨by rfl, ?hy10⟩) (by assumption) ?rest10
              case hy10 => ((intro w hSw; (try dsimp only at hSw); go_simp) <;> with_reducible rfl)
              case rest10 =>
                (try simp only [Act.put, List.setIfInBounds_toArray, List.set_cons_zero, List.set_cons_succ])
                refine anyH_at #[true, true, true, true, true, true, true, true, true, true, true, false, false, false, false, false, false, false, false, false, false, false, false, false, false, false, false, false] (by kernel_rfl) ?_
                refine wpAnyH_take (i := 11) (oi := { dst := some 39, op := _, type := _, pos := _, after := _, guard := _ }) (v := ?vv11) rfl (by kernel_rfl) (by kernel_rfl) (by kernel_rfl) (fun _ _ _ h => h) (Or.inl ⟨by rfl, ?hy11⟩) (by assumption) ?rest11
                case hy11 => ((intro w hSw; (try dsimp only at hSw); go_simp) <;> with_reducible rfl)
                case rest11 =>
                  (try simp only [Act.put, List.setIfInBounds_toArray, List.set_cons_zero, List.set_cons_succ])
                  refine anyH_at #[true, true, true, true, true, true, true, true, true, true, true, true, false, false, false, false, false, false, false, false, false, false, false, false, false, false, false, false] (by kernel_rfl) ?_
                  refine wpAnyH_ready (rs := [12]) (by kernel_rfl) (by simp) ?_
                  refine AllReadyH.cons (o := { dst := some 40, op := _, type := _, pos := _, after := _, guard := _ }) rfl (fun Kk hKk => ?_) AllReadyH.nil
                  go_simp
                  refine (is_any a4 n4 c4 R _ (unhide HQ) (unhide HRw)).mono ?_
                  rintro e wg ⟨rfl, hbg⟩
                  have HBB := hide (bthen (unhide HBB) hbg)
                  have hbl := hbg
                  clear hbg
                  (try go_wp2_with fail)
                  refine hKk.out _ _ ?_ (fun hHeld => ?_)
                  · (try dsimp only)
                    exact stable_shelf _ _ _ _ _ _ _ _ (by assumption) hbl
                  clear hKk Kk
                  (try simp only [List.setIfInBounds_toArray, List.set_cons_zero, List.set_cons_succ])
                  refine anyH_at #[true, true, true, true, true, true, true, true, true, true, true, true, true, false, false, false, false, false, false, false, false, false, false, false, false, false, false, false] (by kernel_rfl) ?_
                  refine wpAnyH_take (i := 13) (oi := { dst := some 41, op := _, type := _, pos := _, after := _, guard := _ }) (v := ?vv13) rfl (by kernel_rfl) (by kernel_rfl) (by kernel_rfl) (fun _ _ _ h => h) (Or.inl ⟨by rfl, ?hy13⟩) (by assumption) ?rest13
                  case hy13 => ((intro w hSw; (try dsimp only at hSw); go_simp) <;> with_reducible rfl)
                  case rest13 =>
                    (try simp only [Act.put, List.setIfInBounds_toArray, List.set_cons_zero, List.set_cons_succ])
                    refine anyH_at #[true, true, true, true, true, true, true, true, true, true, true, true, true, true, false, false, false, false, false, false, false, false, false, false, false, false, false, false] (by kernel_rfl) ?_
                    refine wpAnyH_take (i := 14) (oi := { dst := some 42, op := _, type := _, pos := _, after := _, guard := _ }) (v := ?vv14) rfl (by kernel_rfl) (by kernel_rfl) (by kernel_rfl) (fun _ _ _ h => h) (Or.inl ⟨by rfl, ?hy14⟩) (by assumption) ?rest14
                    case hy14 => ((intro w hSw; (try dsimp only at hSw); go_simp) <;> with_reducible rfl)
                    case rest14 =>
                      (try simp only [Act.put, List.setIfInBounds_toArray, List.set_cons_zero, List.set_cons_succ])
                      refine anyH_at #[true, true, true, true, true, true, true, true, true, true, true, true, true, true, true, false, false, false, false, false, false, false, false, false, false, false, false, false] (by kernel_rfl) ?_
                      refine wpAnyH_take (i := 15) (oi := { dst := some 43, op := _, type := _, pos := _, after := _, guard := _ }) (v := ?vv15) rfl (by kernel_rfl) (by kernel_rfl) (by kernel_rfl) (fun _ _ _ h => h) (Or.inl ⟨by rfl, ?hy15⟩) (by assumption) ?rest15
                      case hy15 => ((intro w hSw; (try dsimp only at hSw); go_simp) <;> with_reducible rfl)
                      case rest15 =>
                        (try simp only [Act.put, List.setIfInBounds_toArray, List.set_cons_zero, List.set_cons_succ])
                        refine anyH_at #[true, true, true, true, true, true, true, true, true, true, true, true, true, true, true, true, false, false, false, false, false, false, false, false, false, false, false, false] (by kernel_rfl) ?_
                        refine wpAnyH_take (i := 16) (oi := { dst := some 44, op := _, type := _, pos := _, after := _, guard := _ }) (v := ?vv16) rfl (by kernel_rfl) (by kernel_rfl) (by kernel_rfl) (fun _ _ _ h => h) (Or.inl ⟨by rfl, ?hy16⟩) (by assumption) ?rest16
                        case hy16 => ((intro w hSw; (try dsimp only at hSw); go_simp) <;> with_reducible rfl)
                        case rest16 =>
                          (try simp only [Act.put, List.setIfInBounds_toArray, List.set_cons_zero, List.set_cons_succ])
                          refine anyH_at #[true, true, true, true, true, true, true, true, true, true, true, true, true, true, true, true, true, false, false, false, false, false, false, false, false, false, false, false] (by kernel_rfl) ?_
                          refine wpAnyH_take (i := 17) (oi := { dst := some 45, op := _, type := _, pos := _, after := _, guard := _ }) (v := .bool true) rfl (by kernel_rfl) (by kernel_rfl) (by kernel_rfl) (fun _ _ _ h => h) (Or.inl ⟨by rfl, ?hy17⟩) (by assumption) ?rest17
                          case hy17 => ((intro w hSw; (try dsimp only at hSw); go_simp) <;> with_reducible rfl)
                          case rest17 =>
                            (try simp only [Act.put, List.setIfInBounds_toArray, List.set_cons_zero, List.set_cons_succ])
                            refine anyH_at #[true, true, true, true, true, true, true, true, true, true, true, true, true, true, true, true, true, true, false, false, false, false, false, false, false, false, false, false] (by kernel_rfl) ?_
                            refine wpAnyH_take (i := 18) (oi := { dst := some 46, op := _, type := _, pos := _, after := _, guard := _ }) (v := ?vv18) rfl (by kernel_rfl) (by kernel_rfl) (by kernel_rfl) (fun _ _ _ h => h) (Or.inl ⟨by rfl, ?hy18⟩) (by assumption) ?rest18
                            case hy18 => ((intro w hSw; (try dsimp only at hSw); go_simp) <;> with_reducible rfl)
                            case rest18 =>
                              (try simp only [Act.put, List.setIfInBounds_toArray, List.set_cons_zero, List.set_cons_succ])
                              refine anyH_at #[true, true, true, true, true, true, true, true, true, true, true, true, true, true, true, true, true, true, true, false, false, false, false, false, false, false, false, false] (by kernel_rfl) ?_
                              refine wpAnyH_take (i := 19) (oi := { dst := some 47, op := _, type := _, pos := _, after := _, guard := _ }) (v := ?vv19) rfl (by kernel_rfl) (by kernel_rfl) (by kernel_rfl) (fun _ _ _ h => h) (Or.inl ⟨by rfl, ?hy19⟩) (by assumption) ?rest19
                              case hy19 => ((intro w hSw; (try dsimp only at hSw); go_simp) <;> with_reducible rfl)
                              case rest19 =>
                                (try simp only [Act.put, List.setIfInBounds_toArray, List.set_cons_zero, List.set_cons_succ])
                                refine anyH_at #[true, true, true, true, true, true, true, true, true, true, true, true, true, true, true, true, true, true, true, true, false, false, false, false, false, false, false, false] (by kernel_rfl) ?_
                                refine wpAnyH_take (i := 20) (oi := { dst := some 48, op := _, type := _, pos := _, after := _, guard := _ }) (v := ?vv20) rfl (by kernel_rfl) (by kernel_rfl) (by kernel_rfl) (fun _ _ _ h => h) (Or.inl ⟨by rfl, ?hy20⟩) (by assumption) ?rest20
                                case hy20 => ((intro w hSw; (try dsimp only at hSw); go_simp) <;> with_reducible rfl)
                                case rest20 =>
                                  (try simp only [Act.put, List.setIfInBounds_toArray, List.set_cons_zero, List.set_cons_succ])
                                  refine anyH_at #[true, true, true, true, true, true, true, true, true, true, true, true, true, true, true, true, true, true, true, true, true, false, false, false, false, false, false, false] (by kernel_rfl) ?_
                                  refine wpAnyH_take (i := 22) (oi := { dst := some 50, op := _, type := _, pos := _, after := _, guard := _ }) (v := ?vv22) rfl (by kernel_rfl) (by kernel_rfl) (by kernel_rfl) (fun _ _ _ h => h) (Or.inl ⟨by rfl, ?hy22⟩) (by assumption) ?rest22
                                  case hy22 => ((intro w hSw; (try dsimp only at hSw); go_simp) <;> with_reducible rfl)
                                  case rest22 =>
                                    (try simp only [Act.put, List.setIfInBounds_toArray, List.set_cons_zero, List.set_cons_succ])
                                    refine anyH_at #[true, true, true, true, true, true, true, true, true, true, true, true, true, true, true, true, true, true, true, true, true, false, true, false, false, false, false, false] (by kernel_rfl) ?_
                                    refine wpAnyH_ready (rs := [21]) (by kernel_rfl) (by simp) ?_
                                    refine AllReadyH.cons (o := { dst := some 49, op := _, type := _, pos := _, after := _, guard := _ }) rfl (fun Kk hKk => ?_) AllReadyH.nil
                                    go_simp
                                    refine (unhide CE _).mono ?_
                                    rintro e wh ⟨rfl, hbh⟩
                                    have HBB := hide (bthen (unhide HBB) hbh)
                                    have hbl := hbh
                                    clear hbh
                                    (try go_wp2_with fail)
                                    refine hKk.out _ _ ?_ (fun hHeld => ?_)
                                    · (try dsimp only)
                                      exact stable_shelf _ _ _ _ _ _ _ _ (by assumption) hbl
                                    clear hKk Kk
                                    (try simp only [List.setIfInBounds_toArray, List.set_cons_zero, List.set_cons_succ])
                                    refine anyH_at #[true, true, true, true, true, true, true, true, true, true, true, true, true, true, true, true, true, true, true, true, true, true, true, false, false, false, false, false] (by kernel_rfl) ?_
                                    refine wpAnyH_ready (rs := [23]) (by kernel_rfl) (by simp) ?_
                                    refine AllReadyH.cons (o := { dst := some 51, op := _, type := _, pos := _, after := _, guard := _ }) rfl (fun Kk hKk => ?_) AllReadyH.nil
                                    go_simp
                                    refine (unhide CN _).mono ?_
                                    rintro e wi ⟨si, rfl, hNi, hbi⟩
                                    obtain ⟨ai, ni, ci, rfl⟩ := hNi.slice
                                    have HNi := hide hNi
                                    clear hNi
                                    have HBB := hide (bthen (unhide HBB) hbi)
                                    have hbl := hbi
                                    clear hbi
                                    (try go_wp2_with fail)
                                    refine hKk.out _ _ ?_ (fun hHeld => ?_)
                                    · (try dsimp only)
                                      exact stable_shelf _ _ _ _ _ _ _ _ (by assumption) hbl
                                    clear hKk Kk
                                    (try simp only [List.setIfInBounds_toArray, List.set_cons_zero, List.set_cons_succ])
                                    refine anyH_at #[true, true, true, true, true, true, true, true, true, true, true, true, true, true, true, true, true, true, true, true, true, true, true, true, false, false, false, false] (by kernel_rfl) ?_
                                    refine wpAnyH_ready (rs := [24]) (by kernel_rfl) (by simp) ?_
                                    refine AllReadyH.cons (o := { dst := some 52, op := _, type := _, pos := _, after := _, guard := _ }) rfl (fun Kk hKk => ?_) AllReadyH.nil
                                    go_simp
                                    refine (refLen_any ai ni ci v _ (unhide HNi)).mono ?_
                                    rintro e wj ⟨rfl, hbj⟩
                                    have HBB := hide (bthen (unhide HBB) hbj)
                                    have hbl := hbj
                                    clear hbj
                                    (try go_wp2_with fail)
                                    refine hKk.out _ _ ?_ (fun hHeld => ?_)
                                    · (try dsimp only)
                                      exact stable_shelf _ _ _ _ _ _ _ _ (by assumption) hbl
                                    clear hKk Kk
                                    (try simp only [List.setIfInBounds_toArray, List.set_cons_zero, List.set_cons_succ])
                                    refine anyH_at #[true, true, true, true, true, true, true, true, true, true, true, true, true, true, true, true, true, true, true, true, true, true, true, true, true, false, false, false] (by kernel_rfl) ?_
                                    refine wpAnyH_take (i := 25) (oi := { dst := some 53, op := _, type := _, pos := _, after := _, guard := _ }) (v := .bool true) rfl (by kernel_rfl) (by kernel_rfl) (by kernel_rfl) (fun _ _ _ h => h) (Or.inl ⟨by rfl, ?hy25⟩) (by assumption) ?rest25
                                    case hy25 => ((intro w hSw; (try dsimp only at hSw); go_simp) <;> with_reducible rfl)
                                    case rest25 =>
                                      (try simp only [Act.put, List.setIfInBounds_toArray, List.set_cons_zero, List.set_cons_succ])
                                      refine anyH_at #[true, true, true, true, true, true, true, true, true, true, true, true, true, true, true, true, true, true, true, true, true, true, true, true, true, true, false, false] (by kernel_rfl) ?_
                                      refine wpAnyH_take (i := 26) (oi := { dst := some 54, op := _, type := _, pos := _, after := _, guard := _ }) (v := ?vv26) rfl (by kernel_rfl) (by kernel_rfl) (by kernel_rfl) (fun _ _ _ h => h) (Or.inl ⟨by rfl, ?hy26⟩) (by assumption) ?rest26
                                      case hy26 => ((intro w hSw; (try dsimp only at hSw); go_simp) <;> with_reducible rfl)
                                      case rest26 =>
                                        (try simp only [Act.put, List.setIfInBounds_toArray, List.set_cons_zero, List.set_cons_succ])
                                        refine anyH_at #[true, true, true, true, true, true, true, true, true, true, true, true, true, true, true, true, true, true, true, true, true, true, true, true, true, true, true, false] (by kernel_rfl) ?_
                                        refine wpAnyH_take (i := 27) (oi := { dst := some 4, op := _, type := _, pos := _, after := _, guard := _ }) (v := ?vv27) rfl (by kernel_rfl) (by kernel_rfl) (by kernel_rfl) (fun _ _ _ h => h) (Or.inl ⟨by rfl, ?hy27⟩) (by assumption) ?rest27
                                        case hy27 => ((intro w hSw; (try dsimp only at hSw); go_simp) <;> with_reducible rfl)
                                        case rest27 =>
                                          (try simp only [Act.put, List.setIfInBounds_toArray, List.set_cons_zero, List.set_cons_succ])
                                          refine anyH_at #[true, true, true, true, true, true, true, true, true, true, true, true, true, true, true, true, true, true, true, true, true, true, true, true, true, true, true, true] (by kernel_rfl) ?_
                                          refine wpAnyH_done (by kernel_rfl) ?_ _
                                          go_wp2
                                          go_ret
                                          exact ⟨rfl, unhide HBB⟩

end Go.Proofs.Ytifacdihhhcmnaa
