/- The reference's Exact, Pack and Narrow: their walks. -/
import Derived.Test.YtiklaalcmfkddaaNearX
namespace Go.Proofs.Ytiklaalcmfkddaa
open Go.RowKit
open Go.Proofs.Ytiklaalcmfkddaa.W

set_option maxRecDepth 100000 in
set_option maxHeartbeats 1000000 in
theorem exact_z {w k V : Int} {n : Bool} (a : Option Addr) (na ca : Nat) (w0 : World) (hz : ((na : Int) == 0) = true) (HC : Hid (∀ W, Calls Try.prog 29 #[.int .i64 w, .bool n, .int .i64 0, .int .u64 0] W fun r W' => r = .returned (.int .u64 V) ∧ Below W.heap.size W W')) :
    Calls Try.prog 13 #[.int .i64 w, .bool n, .agg #[.slice a na ca], .int .i64 k] w0 fun r W' => r = .returned (.int .u64 V) ∧ Below w0.heap.size w0 W' := by
  go_enter Try.func13, Try.ntmps13
  go_wp2_with fail
  refine (unhide HC _).mono ?_
  rintro _ w1 ⟨rfl, hb⟩
  have HB := hide (bthen (below1 _ _) hb)
  clear hb
  go_wp2_with fail
  go_ret
  exact ⟨rfl, unhide HB⟩
set_option maxRecDepth 100000 in
set_option maxHeartbeats 1000000 in
theorem exact_l {w k V : Int} {n : Bool} (a : Option Addr) (na ca : Nat) (w0 : World) (hz : ((na : Int) == 0) = false) (g : decide (k < -4000) = true) (HC : Hid (∀ W, Calls Try.prog 29 #[.int .i64 w, .bool n, .int .i64 0, .int .u64 0] W fun r W' => r = .returned (.int .u64 V) ∧ Below W.heap.size W W')) :
    Calls Try.prog 13 #[.int .i64 w, .bool n, .agg #[.slice a na ca], .int .i64 k] w0 fun r W' => r = .returned (.int .u64 V) ∧ Below w0.heap.size w0 W' := by
  go_enter Try.func13, Try.ntmps13
  go_wp2_with fail
  refine (unhide HC _).mono ?_
  rintro _ w1 ⟨rfl, hb⟩
  have HB := hide (bthen (below1 _ _) hb)
  clear hb
  go_wp2_with fail
  go_ret
  exact ⟨rfl, unhide HB⟩
set_option maxRecDepth 100000 in
set_option maxHeartbeats 1000000 in
theorem exact_h {w k V : Int} {n : Bool} (a : Option Addr) (na ca : Nat) (w0 : World) (hz : ((na : Int) == 0) = false) (g : decide (k < -4000) = false) (g2 : decide (4000 < k) = true) (HC : Hid (∀ W, Calls Try.prog 30 #[.int .i64 w, .bool n] W fun r W' => r = .returned (.int .u64 V) ∧ Below W.heap.size W W')) :
    Calls Try.prog 13 #[.int .i64 w, .bool n, .agg #[.slice a na ca], .int .i64 k] w0 fun r W' => r = .returned (.int .u64 V) ∧ Below w0.heap.size w0 W' := by
  go_enter Try.func13, Try.ntmps13
  go_wp2_with fail
  refine (unhide HC _).mono ?_
  rintro _ w1 ⟨rfl, hb⟩
  have HB := hide (bthen (below1 _ _) hb)
  clear hb
  go_wp2_with fail
  go_ret
  exact ⟨rfl, unhide HB⟩
set_option maxRecDepth 100000 in
set_option maxHeartbeats 1000000 in
theorem exact_n {w k V : Int} {n : Bool} (a : Option Addr) (na ca x : Nat) (w0 : World) (hx : IsNat w0 (.slice a na ca) x) (hz : ((na : Int) == 0) = false) (g : decide (k < -4000) = false) (g2 : decide (4000 < k) = false)
    (HN : Hid (∀ (b' : Option Addr) (nb cb : Nat) (W : World), IsNat W (.slice a na ca) x → IsNat W (.slice b' nb cb) 1 → Calls Try.prog 31 #[.int .i64 w, .bool n, .agg #[.slice a na ca], .agg #[.slice b' nb cb], .int .i64 k] W fun r W' => r = .returned (.int .u64 V) ∧ Below W.heap.size W W')) :
    Calls Try.prog 13 #[.int .i64 w, .bool n, .agg #[.slice a na ca], .int .i64 k] w0 fun r W' => r = .returned (.int .u64 V) ∧ Below w0.heap.size w0 W' := by
  go_enter Try.func13, Try.ntmps13
  go_wp2_with fail
  have HB := hide (below1 w0 (.cells #[.slice a na ca] 39)).drew
  have HX := hide (hx.below (unhide HB))
  have HA : Hid ((w0.alloc (.cells #[.slice a na ca] 39)).drew.cell? ⟨w0.heap.size, 0, none⟩ = some (.slice a na ca)) := by unfold Hid; simp [go_sem]
  clear hx
  refine wp_region_held_drew (S := fun w' => w'.cell? ⟨w0.heap.size, 0, none⟩ = some (.slice a na ca)) (by kernel_rfl) ?_ (fun hHeld => ?_)
  · (try dsimp only)
    exact unhide HA
  refine anyH_at #[false, false, false, false, false, false, false] (by kernel_rfl) ?_
  refine wpAnyH_take (i := 0) (oi := { dst := some 25, op := _, type := _, pos := _, after := _, guard := _ }) (v := ?vv0e) rfl (by kernel_rfl) (by kernel_rfl) (by kernel_rfl) (fun _ _ _ h => h) (Or.inl ⟨by rfl, ?hy0e⟩) (by assumption) ?rest0e
  case hy0e => ((intro w hSw; (try dsimp only at hSw); go_simp) <;> with_reducible rfl)
  case rest0e =>
    (try simp only [Act.put, List.setIfInBounds_toArray, List.set_cons_zero, List.set_cons_succ])
    refine anyH_at #[true, false, false, false, false, false, false] (by kernel_rfl) ?_
    refine wpAnyH_take (i := 1) (oi := { dst := some 26, op := _, type := _, pos := _, after := _, guard := _ }) (v := ?vv1e) rfl (by kernel_rfl) (by kernel_rfl) (by kernel_rfl) (fun _ _ _ h => h) (Or.inl ⟨by rfl, ?hy1e⟩) (by assumption) ?rest1e
    case hy1e => ((intro w hSw; (try dsimp only at hSw); go_simp) <;> with_reducible rfl)
    case rest1e =>
      (try simp only [Act.put, List.setIfInBounds_toArray, List.set_cons_zero, List.set_cons_succ])
      refine anyH_at #[true, true, false, false, false, false, false] (by kernel_rfl) ?_
      refine wpAnyH_take (i := 2) (oi := { dst := some 27, op := _, type := _, pos := _, after := _, guard := _ }) (v := ?vv2e) rfl (by kernel_rfl) (by kernel_rfl) (by kernel_rfl) (fun _ _ _ h => h) (Or.inl ⟨by rfl, ?hy2e⟩) (by assumption) ?rest2e
      case hy2e => ((intro w hSw; (try dsimp only at hSw); go_simp) <;> with_reducible rfl)
      case rest2e =>
        (try simp only [Act.put, List.setIfInBounds_toArray, List.set_cons_zero, List.set_cons_succ])
        refine anyH_at #[true, true, true, false, false, false, false] (by kernel_rfl) ?_
        refine wpAnyH_take (i := 4) (oi := { dst := some 29, op := _, type := _, pos := _, after := _, guard := _ }) (v := ?vv4e) rfl (by kernel_rfl) (by kernel_rfl) (by kernel_rfl) (fun _ _ _ h => h) (Or.inl ⟨by rfl, ?hy4e⟩) (by assumption) ?rest4e
        case hy4e => ((intro w hSw; (try dsimp only at hSw); go_simp) <;> with_reducible rfl)
        case rest4e =>
          (try simp only [Act.put, List.setIfInBounds_toArray, List.set_cons_zero, List.set_cons_succ])
          refine anyH_at #[true, true, true, false, true, false, false] (by kernel_rfl) ?_
          refine wpAnyH_ready (rs := [3]) (by kernel_rfl) (by simp) ?_
          refine AllReadyH.cons (o := { dst := some 28, op := _, type := _, pos := _, after := _, guard := _ }) rfl (fun Kk hKk => ?_) AllReadyH.nil
          go_simp
          refine (refOf_1 _).mono ?_
          rintro _ w8 ⟨s8, rfl, hN8, hbl⟩
          obtain ⟨a8, n8, c8, rfl⟩ := hN8.slice
          have H8 := hide hN8
          have HX := hide ((unhide HX).below hbl)
          have HA := hide (keep1 hbl (lt_of_cell (unhide HA)) (unhide HA))
          have HB := hide (bthen (unhide HB) hbl)
          clear hbl hN8
          (try go_wp2_with fail)
          refine hKk.out _ _ ?_ (fun hHeld => ?_)
          · (try dsimp only)
            exact unhide HA
          clear hKk Kk
          (try simp only [List.setIfInBounds_toArray, List.set_cons_zero, List.set_cons_succ])
          refine anyH_at #[true, true, true, true, true, false, false] (by kernel_rfl) ?_
          refine wpAnyH_ready (rs := [5]) (by kernel_rfl) (by simp) ?_
          refine AllReadyH.cons (o := { dst := some 30, op := _, type := _, pos := _, after := _, guard := _ }) rfl (fun Kk hKk => ?_) AllReadyH.nil
          go_simp
          refine (unhide HN _ _ _ _ (unhide HX) (unhide H8)).mono ?_
          rintro _ w9 ⟨rfl, hbl⟩
          have HA := hide (keep1 hbl (lt_of_cell (unhide HA)) (unhide HA))
          have HB := hide (bthen (unhide HB) hbl)
          clear hbl
          (try go_wp2_with fail)
          refine hKk.out _ _ ?_ (fun hHeld => ?_)
          · (try dsimp only)
            exact unhide HA
          clear hKk Kk
          (try simp only [List.setIfInBounds_toArray, List.set_cons_zero, List.set_cons_succ])
          refine anyH_at #[true, true, true, true, true, true, false] (by kernel_rfl) ?_
          refine wpAnyH_take (i := 6) (oi := { dst := some 8, op := _, type := _, pos := _, after := _, guard := _ }) (v := ?vv6e) rfl (by kernel_rfl) (by kernel_rfl) (by kernel_rfl) (fun _ _ _ h => h) (Or.inl ⟨by rfl, ?hy6e⟩) (by assumption) ?rest6e
          case hy6e => ((intro w hSw; (try dsimp only at hSw); go_simp) <;> with_reducible rfl)
          case rest6e =>
            (try simp only [Act.put, List.setIfInBounds_toArray, List.set_cons_zero, List.set_cons_succ])
            refine anyH_at #[true, true, true, true, true, true, true] (by kernel_rfl) ?_
            refine wpAnyH_done (by kernel_rfl) ?_ _
            clear hHeld
            go_wp2
            go_ret
            exact ⟨rfl, unhide HB⟩


theorem shl_pw {v : Nat} (hv : W2 v) : v * 2 ^ 1 < pw 5 := by
  unfold W2 at hv
  have := pw_succ 4
  rw [pw_4] at this
  rw [this]
  omega

set_option maxRecDepth 100000 in
set_option maxHeartbeats 2000000 in
theorem refPack_mt {w X V : Int} {n : Bool} (v : Nat) (w0 : World) (hv : W2 v) (xa : ¬ X < -10000) (xb : ¬ 10000 < X) (kx : IntKind.i64.wrap (X - 1) = X - 1)
    (HE : Hid (∀ (a : Option Addr) (na ca : Nat) (W : World), IsNat W (.slice a na ca) (v * 2 ^ 1 + 1) → Calls Try.prog 13 #[.int .i64 w, .bool n, .agg #[.slice a na ca], .int .i64 (X - 1)] W fun r W' => r = .returned (.int .u64 V) ∧ Below W.heap.size W W')) :
    Calls Try.prog 10 #[.int .i64 w, .bool n, .int .u64 (hi v), .int .u64 (lo v), .int .i64 X, .bool true] w0 fun r W' => r = .returned (.int .u64 V) ∧ Below w0.heap.size w0 W' := by
  go_enter Try.func10, Try.ntmps10
  go_wp2_with fail
  refine (pair_any v _ hv).mono ?_
  rintro _ w1 ⟨s1, rfl, hN1, hb1⟩
  obtain ⟨a1, n1, c1, rfl⟩ := hN1.slice
  go_wp2_with fail
  refine (shl_one _ _ _ _ _ hN1 (Nat.le_trans (hN1.short (k := 4) (by rw [pw_4]; exact hv)) (by omega))).mono ?_
  rintro _ w2 ⟨s2, rfl, hN2, hb2⟩
  obtain ⟨a2, n2, c2, rfl⟩ := hN2.slice
  have HB := hide (balloc (bthen hb1 hb2) (.cells #[.slice a2 n2 c2] 39))
  have hz2 : w0.heap.size ≤ w2.heap.size := (bthen hb1 hb2).size
  have H2 := hide (hN2.below (below1 _ (.cells #[.slice a2 n2 c2] 39)))
  clear hb1 hb2 hN1 hN2
  go_wp2_with fail
  have HM : Hid ((w2.alloc (.cells #[.slice a2 n2 c2] 39)).drew.cell? ⟨w2.heap.size, 0, none⟩ = some (.slice a2 n2 c2) ∧ (w2.alloc (.cells #[.slice a2 n2 c2] 39)).drew.frozen? ⟨w2.heap.size, 0, none⟩ = false) := ⟨by simp [go_sem], by simp [go_sem]⟩
  have HB := hide (unhide HB).drew
  have H2 := hide ((unhide H2).below ((Below.refl _ _).drew))
  have HS := hide (shl_pw hv)
  go_region_with (first
    | (go_at_call 14; refine (refOf_1 _).mono ?_; rintro e w8 ⟨s8, rfl, hN8, hbl⟩; obtain ⟨a8, n8, c8, rfl⟩ := hN8.slice; have H8 := hide hN8; have H28 := hide ((unhide H2).below hbl); have HM8 := hide (And.intro (keep1 hbl (lt_of_cell (unhide HM).1) (unhide HM).1) ((hbl.frozen (lt_of_cell (unhide HM).1)).trans (unhide HM).2)); have HB8 := hide (bthen (unhide HB) hbl); clear hbl hN8; have cn8 := (unhide HM8).1)
    | (go_at_call 27; refine (refAdd_any _ _ _ _ _ _ _ _ _ (unhide H28) (unhide H8) (Nat.le_trans ((unhide H28).short (k := 5) (unhide HS)) (by omega)) (Nat.le_trans ((unhide H8).short (k := 1) (by rw [pw_1]; omega)) (by omega))).mono ?_; rintro e w9 ⟨s9, rfl, hN9, hbl⟩; obtain ⟨a9, n9, c9, rfl⟩ := hN9.slice; have H9 := hide hN9; have HM9 := hide (And.intro (keep1 hbl (lt_of_cell (unhide HM8).1) (unhide HM8).1) ((hbl.frozen (lt_of_cell (unhide HM8).1)).trans (unhide HM8).2)); have HB9 := hide (bthen (unhide HB8) hbl); clear hbl hN9 cn8; have cn9 := (unhide HM9).1; have fn9 := (unhide HM9).2))
  all_goals
    have H9 := hide ((unhide H9).store cn9 (.slice a9 n9 c9))
    have HB := hide (bset (unhide HB9) w2.heap.size hz2 0 (.slice a9 n9 c9))
    have cn : (w9.setCell ⟨w2.heap.size, 0, none⟩ (.slice a9 n9 c9)).cell? ⟨w2.heap.size, 0, none⟩ = some (.slice a9 n9 c9) := World.cell?_setCell_same _ _ _ cn9
    clear cn9 fn9 HM HM8 HM9 HB8 HB9
    generalize w9.setCell ⟨w2.heap.size, 0, none⟩ (.slice a9 n9 c9) = wx at *
    go_wp2_with fail
    refine (unhide HE _ _ _ _ (unhide H9)).mono ?_
    rintro _ wz ⟨rfl, hbl⟩
    have HB := hide (bthen (unhide HB) hbl)
    go_wp2_with fail
    go_ret
    exact ⟨rfl, unhide HB⟩
set_option maxRecDepth 100000 in
set_option maxHeartbeats 2000000 in
theorem refPack_lt {w X V : Int} {n : Bool} (v : Nat) (w0 : World) (hv : W2 v) (xa : X < -10000)
    (HE : Hid (∀ (a : Option Addr) (na ca : Nat) (W : World), IsNat W (.slice a na ca) (v * 2 ^ 1 + 1) → Calls Try.prog 13 #[.int .i64 w, .bool n, .agg #[.slice a na ca], .int .i64 (-10001)] W fun r W' => r = .returned (.int .u64 V) ∧ Below W.heap.size W W')) :
    Calls Try.prog 10 #[.int .i64 w, .bool n, .int .u64 (hi v), .int .u64 (lo v), .int .i64 X, .bool true] w0 fun r W' => r = .returned (.int .u64 V) ∧ Below w0.heap.size w0 W' := by
  go_enter Try.func10, Try.ntmps10
  go_wp2_with fail
  refine (pair_any v _ hv).mono ?_
  rintro _ w1 ⟨s1, rfl, hN1, hb1⟩
  obtain ⟨a1, n1, c1, rfl⟩ := hN1.slice
  go_wp2_with fail
  refine (shl_one _ _ _ _ _ hN1 (Nat.le_trans (hN1.short (k := 4) (by rw [pw_4]; exact hv)) (by omega))).mono ?_
  rintro _ w2 ⟨s2, rfl, hN2, hb2⟩
  obtain ⟨a2, n2, c2, rfl⟩ := hN2.slice
  have HB := hide (balloc (bthen hb1 hb2) (.cells #[.slice a2 n2 c2] 39))
  have hz2 : w0.heap.size ≤ w2.heap.size := (bthen hb1 hb2).size
  have H2 := hide (hN2.below (below1 _ (.cells #[.slice a2 n2 c2] 39)))
  clear hb1 hb2 hN1 hN2
  go_wp2_with fail
  have HM : Hid ((w2.alloc (.cells #[.slice a2 n2 c2] 39)).drew.cell? ⟨w2.heap.size, 0, none⟩ = some (.slice a2 n2 c2) ∧ (w2.alloc (.cells #[.slice a2 n2 c2] 39)).drew.frozen? ⟨w2.heap.size, 0, none⟩ = false) := ⟨by simp [go_sem], by simp [go_sem]⟩
  have HB := hide (unhide HB).drew
  have H2 := hide ((unhide H2).below ((Below.refl _ _).drew))
  have HS := hide (shl_pw hv)
  go_region_with (first
    | (go_at_call 14; refine (refOf_1 _).mono ?_; rintro e w8 ⟨s8, rfl, hN8, hbl⟩; obtain ⟨a8, n8, c8, rfl⟩ := hN8.slice; have H8 := hide hN8; have H28 := hide ((unhide H2).below hbl); have HM8 := hide (And.intro (keep1 hbl (lt_of_cell (unhide HM).1) (unhide HM).1) ((hbl.frozen (lt_of_cell (unhide HM).1)).trans (unhide HM).2)); have HB8 := hide (bthen (unhide HB) hbl); clear hbl hN8; have cn8 := (unhide HM8).1)
    | (go_at_call 27; refine (refAdd_any _ _ _ _ _ _ _ _ _ (unhide H28) (unhide H8) (Nat.le_trans ((unhide H28).short (k := 5) (unhide HS)) (by omega)) (Nat.le_trans ((unhide H8).short (k := 1) (by rw [pw_1]; omega)) (by omega))).mono ?_; rintro e w9 ⟨s9, rfl, hN9, hbl⟩; obtain ⟨a9, n9, c9, rfl⟩ := hN9.slice; have H9 := hide hN9; have HM9 := hide (And.intro (keep1 hbl (lt_of_cell (unhide HM8).1) (unhide HM8).1) ((hbl.frozen (lt_of_cell (unhide HM8).1)).trans (unhide HM8).2)); have HB9 := hide (bthen (unhide HB8) hbl); clear hbl hN9 cn8; have cn9 := (unhide HM9).1; have fn9 := (unhide HM9).2))
  all_goals
    have H9 := hide ((unhide H9).store cn9 (.slice a9 n9 c9))
    have HB := hide (bset (unhide HB9) w2.heap.size hz2 0 (.slice a9 n9 c9))
    have cn : (w9.setCell ⟨w2.heap.size, 0, none⟩ (.slice a9 n9 c9)).cell? ⟨w2.heap.size, 0, none⟩ = some (.slice a9 n9 c9) := World.cell?_setCell_same _ _ _ cn9
    clear cn9 fn9 HM HM8 HM9 HB8 HB9
    generalize w9.setCell ⟨w2.heap.size, 0, none⟩ (.slice a9 n9 c9) = wx at *
    go_wp2_with fail
    refine (unhide HE _ _ _ _ (unhide H9)).mono ?_
    rintro _ wz ⟨rfl, hbl⟩
    have HB := hide (bthen (unhide HB) hbl)
    go_wp2_with fail
    go_ret
    exact ⟨rfl, unhide HB⟩
set_option maxRecDepth 100000 in
set_option maxHeartbeats 2000000 in
theorem refPack_ht {w X V : Int} {n : Bool} (v : Nat) (w0 : World) (hv : W2 v) (xb : 10000 < X)
    (HE : Hid (∀ (a : Option Addr) (na ca : Nat) (W : World), IsNat W (.slice a na ca) (v * 2 ^ 1 + 1) → Calls Try.prog 13 #[.int .i64 w, .bool n, .agg #[.slice a na ca], .int .i64 9999] W fun r W' => r = .returned (.int .u64 V) ∧ Below W.heap.size W W')) :
    Calls Try.prog 10 #[.int .i64 w, .bool n, .int .u64 (hi v), .int .u64 (lo v), .int .i64 X, .bool true] w0 fun r W' => r = .returned (.int .u64 V) ∧ Below w0.heap.size w0 W' := by
  go_enter Try.func10, Try.ntmps10
  go_wp2_with fail
  refine (pair_any v _ hv).mono ?_
  rintro _ w1 ⟨s1, rfl, hN1, hb1⟩
  obtain ⟨a1, n1, c1, rfl⟩ := hN1.slice
  go_wp2_with fail
  refine (shl_one _ _ _ _ _ hN1 (Nat.le_trans (hN1.short (k := 4) (by rw [pw_4]; exact hv)) (by omega))).mono ?_
  rintro _ w2 ⟨s2, rfl, hN2, hb2⟩
  obtain ⟨a2, n2, c2, rfl⟩ := hN2.slice
  have HB := hide (balloc (bthen hb1 hb2) (.cells #[.slice a2 n2 c2] 39))
  have hz2 : w0.heap.size ≤ w2.heap.size := (bthen hb1 hb2).size
  have H2 := hide (hN2.below (below1 _ (.cells #[.slice a2 n2 c2] 39)))
  clear hb1 hb2 hN1 hN2
  go_wp2_with fail
  have HM : Hid ((w2.alloc (.cells #[.slice a2 n2 c2] 39)).drew.cell? ⟨w2.heap.size, 0, none⟩ = some (.slice a2 n2 c2) ∧ (w2.alloc (.cells #[.slice a2 n2 c2] 39)).drew.frozen? ⟨w2.heap.size, 0, none⟩ = false) := ⟨by simp [go_sem], by simp [go_sem]⟩
  have HB := hide (unhide HB).drew
  have H2 := hide ((unhide H2).below ((Below.refl _ _).drew))
  have HS := hide (shl_pw hv)
  go_region_with (first
    | (go_at_call 14; refine (refOf_1 _).mono ?_; rintro e w8 ⟨s8, rfl, hN8, hbl⟩; obtain ⟨a8, n8, c8, rfl⟩ := hN8.slice; have H8 := hide hN8; have H28 := hide ((unhide H2).below hbl); have HM8 := hide (And.intro (keep1 hbl (lt_of_cell (unhide HM).1) (unhide HM).1) ((hbl.frozen (lt_of_cell (unhide HM).1)).trans (unhide HM).2)); have HB8 := hide (bthen (unhide HB) hbl); clear hbl hN8; have cn8 := (unhide HM8).1)
    | (go_at_call 27; refine (refAdd_any _ _ _ _ _ _ _ _ _ (unhide H28) (unhide H8) (Nat.le_trans ((unhide H28).short (k := 5) (unhide HS)) (by omega)) (Nat.le_trans ((unhide H8).short (k := 1) (by rw [pw_1]; omega)) (by omega))).mono ?_; rintro e w9 ⟨s9, rfl, hN9, hbl⟩; obtain ⟨a9, n9, c9, rfl⟩ := hN9.slice; have H9 := hide hN9; have HM9 := hide (And.intro (keep1 hbl (lt_of_cell (unhide HM8).1) (unhide HM8).1) ((hbl.frozen (lt_of_cell (unhide HM8).1)).trans (unhide HM8).2)); have HB9 := hide (bthen (unhide HB8) hbl); clear hbl hN9 cn8; have cn9 := (unhide HM9).1; have fn9 := (unhide HM9).2))
  all_goals
    have H9 := hide ((unhide H9).store cn9 (.slice a9 n9 c9))
    have HB := hide (bset (unhide HB9) w2.heap.size hz2 0 (.slice a9 n9 c9))
    have cn : (w9.setCell ⟨w2.heap.size, 0, none⟩ (.slice a9 n9 c9)).cell? ⟨w2.heap.size, 0, none⟩ = some (.slice a9 n9 c9) := World.cell?_setCell_same _ _ _ cn9
    clear cn9 fn9 HM HM8 HM9 HB8 HB9
    generalize w9.setCell ⟨w2.heap.size, 0, none⟩ (.slice a9 n9 c9) = wx at *
    go_wp2_with fail
    refine (unhide HE _ _ _ _ (unhide H9)).mono ?_
    rintro _ wz ⟨rfl, hbl⟩
    have HB := hide (bthen (unhide HB) hbl)
    go_wp2_with fail
    go_ret
    exact ⟨rfl, unhide HB⟩
set_option maxRecDepth 100000 in
set_option maxHeartbeats 2000000 in
theorem refPack_mf {w X V : Int} {n : Bool} (v : Nat) (w0 : World) (hv : W2 v) (xa : ¬ X < -10000) (xb : ¬ 10000 < X) (kx : IntKind.i64.wrap (X - 1) = X - 1)
    (HE : Hid (∀ (a : Option Addr) (na ca : Nat) (W : World), IsNat W (.slice a na ca) (v * 2 ^ 1) → Calls Try.prog 13 #[.int .i64 w, .bool n, .agg #[.slice a na ca], .int .i64 (X - 1)] W fun r W' => r = .returned (.int .u64 V) ∧ Below W.heap.size W W')) :
    Calls Try.prog 10 #[.int .i64 w, .bool n, .int .u64 (hi v), .int .u64 (lo v), .int .i64 X, .bool false] w0 fun r W' => r = .returned (.int .u64 V) ∧ Below w0.heap.size w0 W' := by
  go_enter Try.func10, Try.ntmps10
  go_wp2_with fail
  refine (pair_any v _ hv).mono ?_
  rintro _ w1 ⟨s1, rfl, hN1, hb1⟩
  obtain ⟨a1, n1, c1, rfl⟩ := hN1.slice
  go_wp2_with fail
  refine (shl_one _ _ _ _ _ hN1 (Nat.le_trans (hN1.short (k := 4) (by rw [pw_4]; exact hv)) (by omega))).mono ?_
  rintro _ w2 ⟨s2, rfl, hN2, hb2⟩
  obtain ⟨a2, n2, c2, rfl⟩ := hN2.slice
  have HB := hide (balloc (bthen hb1 hb2) (.cells #[.slice a2 n2 c2] 39))
  have hz2 : w0.heap.size ≤ w2.heap.size := (bthen hb1 hb2).size
  have H2 := hide (hN2.below (below1 _ (.cells #[.slice a2 n2 c2] 39)))
  clear hb1 hb2 hN1 hN2
  go_wp2_with fail
  refine (unhide HE _ _ _ _ (unhide H2)).mono ?_
  rintro _ wz ⟨rfl, hbl⟩
  have HB := hide (bthen (unhide HB) hbl)
  go_wp2_with fail
  go_ret
  exact ⟨rfl, unhide HB⟩
set_option maxRecDepth 100000 in
set_option maxHeartbeats 2000000 in
theorem refPack_lf {w X V : Int} {n : Bool} (v : Nat) (w0 : World) (hv : W2 v) (xa : X < -10000)
    (HE : Hid (∀ (a : Option Addr) (na ca : Nat) (W : World), IsNat W (.slice a na ca) (v * 2 ^ 1) → Calls Try.prog 13 #[.int .i64 w, .bool n, .agg #[.slice a na ca], .int .i64 (-10001)] W fun r W' => r = .returned (.int .u64 V) ∧ Below W.heap.size W W')) :
    Calls Try.prog 10 #[.int .i64 w, .bool n, .int .u64 (hi v), .int .u64 (lo v), .int .i64 X, .bool false] w0 fun r W' => r = .returned (.int .u64 V) ∧ Below w0.heap.size w0 W' := by
  go_enter Try.func10, Try.ntmps10
  go_wp2_with fail
  refine (pair_any v _ hv).mono ?_
  rintro _ w1 ⟨s1, rfl, hN1, hb1⟩
  obtain ⟨a1, n1, c1, rfl⟩ := hN1.slice
  go_wp2_with fail
  refine (shl_one _ _ _ _ _ hN1 (Nat.le_trans (hN1.short (k := 4) (by rw [pw_4]; exact hv)) (by omega))).mono ?_
  rintro _ w2 ⟨s2, rfl, hN2, hb2⟩
  obtain ⟨a2, n2, c2, rfl⟩ := hN2.slice
  have HB := hide (balloc (bthen hb1 hb2) (.cells #[.slice a2 n2 c2] 39))
  have hz2 : w0.heap.size ≤ w2.heap.size := (bthen hb1 hb2).size
  have H2 := hide (hN2.below (below1 _ (.cells #[.slice a2 n2 c2] 39)))
  clear hb1 hb2 hN1 hN2
  go_wp2_with fail
  refine (unhide HE _ _ _ _ (unhide H2)).mono ?_
  rintro _ wz ⟨rfl, hbl⟩
  have HB := hide (bthen (unhide HB) hbl)
  go_wp2_with fail
  go_ret
  exact ⟨rfl, unhide HB⟩
set_option maxRecDepth 100000 in
set_option maxHeartbeats 2000000 in
theorem refPack_hf {w X V : Int} {n : Bool} (v : Nat) (w0 : World) (hv : W2 v) (xb : 10000 < X)
    (HE : Hid (∀ (a : Option Addr) (na ca : Nat) (W : World), IsNat W (.slice a na ca) (v * 2 ^ 1) → Calls Try.prog 13 #[.int .i64 w, .bool n, .agg #[.slice a na ca], .int .i64 9999] W fun r W' => r = .returned (.int .u64 V) ∧ Below W.heap.size W W')) :
    Calls Try.prog 10 #[.int .i64 w, .bool n, .int .u64 (hi v), .int .u64 (lo v), .int .i64 X, .bool false] w0 fun r W' => r = .returned (.int .u64 V) ∧ Below w0.heap.size w0 W' := by
  go_enter Try.func10, Try.ntmps10
  go_wp2_with fail
  refine (pair_any v _ hv).mono ?_
  rintro _ w1 ⟨s1, rfl, hN1, hb1⟩
  obtain ⟨a1, n1, c1, rfl⟩ := hN1.slice
  go_wp2_with fail
  refine (shl_one _ _ _ _ _ hN1 (Nat.le_trans (hN1.short (k := 4) (by rw [pw_4]; exact hv)) (by omega))).mono ?_
  rintro _ w2 ⟨s2, rfl, hN2, hb2⟩
  obtain ⟨a2, n2, c2, rfl⟩ := hN2.slice
  have HB := hide (balloc (bthen hb1 hb2) (.cells #[.slice a2 n2 c2] 39))
  have hz2 : w0.heap.size ≤ w2.heap.size := (bthen hb1 hb2).size
  have H2 := hide (hN2.below (below1 _ (.cells #[.slice a2 n2 c2] 39)))
  clear hb1 hb2 hN1 hN2
  go_wp2_with fail
  refine (unhide HE _ _ _ _ (unhide H2)).mono ?_
  rintro _ wz ⟨rfl, hbl⟩
  have HB := hide (bthen (unhide HB) hbl)
  go_wp2_with fail
  go_ret
  exact ⟨rfl, unhide HB⟩
set_option maxRecDepth 100000 in
set_option maxHeartbeats 1000000 in
theorem refNarrow_zero {w K X S V : Int} {n : Bool} (W : World) (k0 : (K == 0) = true) (HC : Hid (∀ W, Calls Try.prog 29 #[.int .i64 w, .bool n, .int .i64 0, .int .u64 0] W fun r W' => r = .returned (.int .u64 V) ∧ Below W.heap.size W W')) :
    Calls Try.prog 15 #[.int .i64 w, .agg #[.bool n, .int .i64 K, .int .i64 X, .int .u64 S]] W fun r W' => r = .returned (.int .u64 V) ∧ Below W.heap.size W W' := by
  go_enter Try.func15, Try.ntmps15
  go_wp2_with fail
  refine (unhide HC _).mono ?_
  rintro _ w1 ⟨rfl, hb⟩
  have HB := hide (bthen (below1 _ _) hb)
  clear hb
  go_wp2_with fail
  go_ret
  exact ⟨rfl, unhide HB⟩
set_option maxRecDepth 100000 in
set_option maxHeartbeats 1000000 in
theorem refNarrow_fin {w K X S V : Int} {n : Bool} (W : World) (k0 : (K == 0) = false) (k1 : (K == 1) = true) (HC : Hid (∀ W, Calls Try.prog 10 #[.int .i64 w, .bool n, .int .u64 0, .int .u64 S, .int .i64 X, .bool false] W fun r W' => r = .returned (.int .u64 V) ∧ Below W.heap.size W W')) :
    Calls Try.prog 15 #[.int .i64 w, .agg #[.bool n, .int .i64 K, .int .i64 X, .int .u64 S]] W fun r W' => r = .returned (.int .u64 V) ∧ Below W.heap.size W W' := by
  go_enter Try.func15, Try.ntmps15
  go_wp2_with fail
  refine (unhide HC _).mono ?_
  rintro _ w1 ⟨rfl, hb⟩
  have HB := hide (bthen (below1 _ _) hb)
  clear hb
  go_wp2_with fail
  go_ret
  exact ⟨rfl, unhide HB⟩
set_option maxRecDepth 100000 in
set_option maxHeartbeats 1000000 in
theorem refNarrow_inf {w K X S V : Int} {n : Bool} (W : World) (k0 : (K == 0) = false) (k1 : (K == 1) = false) (k2 : (K == 2) = true) (HC : Hid (∀ W, Calls Try.prog 30 #[.int .i64 w, .bool n] W fun r W' => r = .returned (.int .u64 V) ∧ Below W.heap.size W W')) :
    Calls Try.prog 15 #[.int .i64 w, .agg #[.bool n, .int .i64 K, .int .i64 X, .int .u64 S]] W fun r W' => r = .returned (.int .u64 V) ∧ Below W.heap.size W W' := by
  go_enter Try.func15, Try.ntmps15
  go_wp2_with fail
  refine (unhide HC _).mono ?_
  rintro _ w1 ⟨rfl, hb⟩
  have HB := hide (bthen (below1 _ _) hb)
  clear hb
  go_wp2_with fail
  go_ret
  exact ⟨rfl, unhide HB⟩
set_option maxRecDepth 100000 in
set_option maxHeartbeats 1000000 in
theorem refNarrow_nan {w K X S V : Int} {n : Bool} (W : World) (k0 : (K == 0) = false) (k1 : (K == 1) = false) (k2 : (K == 2) = false) (k3 : (K == 3) = true) (HC : Hid (∀ W, Calls Try.prog 33 #[.int .i64 w] W fun r W' => r = .returned (.int .u64 V) ∧ Below W.heap.size W W')) :
    Calls Try.prog 15 #[.int .i64 w, .agg #[.bool n, .int .i64 K, .int .i64 X, .int .u64 S]] W fun r W' => r = .returned (.int .u64 V) ∧ Below W.heap.size W W' := by
  go_enter Try.func15, Try.ntmps15
  go_wp2_with fail
  refine (unhide HC _).mono ?_
  rintro _ w1 ⟨rfl, hb⟩
  have HB := hide (bthen (below1 _ _) hb)
  clear hb
  go_wp2_with fail
  go_ret
  exact ⟨rfl, unhide HB⟩
set_option maxRecDepth 100000 in
set_option maxHeartbeats 1000000 in
theorem refNarrow_oth {w K X S : Int} {n : Bool} (W : World) (k0 : (K == 0) = false) (k1 : (K == 1) = false) (k2 : (K == 2) = false) (k3 : (K == 3) = false) :
    Calls Try.prog 15 #[.int .i64 w, .agg #[.bool n, .int .i64 K, .int .i64 X, .int .u64 S]] W fun r W' => r = .returned (.int .u64 0) ∧ Below W.heap.size W W' := by
  go_enter Try.func15, Try.ntmps15
  go_wp2_with fail
  go_ret
  exact ⟨rfl, below1 _ _⟩

end Go.Proofs.Ytiklaalcmfkddaa
