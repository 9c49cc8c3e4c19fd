/- The law UtfCuts: its walks. -/
import Derived.Test.YtfjoejgioinfhaaUtI
namespace Go.Proofs.Ytfjoejgioinfhaa
open Go.RowKit

/-- Whether the first bytes are below 128. -/
def lows (xs : List Int) : Nat → Bool
  | 0 => true
  | i + 1 => lows xs i && decide (xs.getD i 0 < 128)
theorem lows_iff (xs : List Int) : ∀ i, lows xs i = true → ∀ j, j < i → xs.getD j 0 < 128
  | 0, _, j, hj => by omega
  | i + 1, h, j, hj => by
    unfold lows at h
    rw [Bool.and_eq_true, decide_eq_true_eq] at h
    by_cases e : j = i
    · subst e; exact h.2
    · exact lows_iff xs i h.1 j (by omega)
set_option maxHeartbeats 1000000 in
set_option maxRecDepth 100000 in
theorem cuts_big {a a' : Option Addr} {len cap len' cap' : Nat} {k : Int} (W : World) (h : (200 : Int) < (len : Int) ∨ (200 : Int) < (len' : Int) ∨ k < 0) :
    Calls Try.prog 6 #[.slice a len cap, .slice a' len' cap', .int .i64 k] W fun r W' => r = .returned (.bool true) ∧ Below W.heap.size W W' := by
  have HA := awake_any
  by_cases h1 : (200 : Int) < (len : Int)
  · have d1 : decide ((200 : Int) < (len : Int)) = true := decide_eq_true h1
    clear h
    go_enter Try.func6, Try.ntmps6
    go_wp2_with fail
    refine (unhide HA _).mono ?_
    rintro _ w1 ⟨rfl, hb⟩
    go_wp2_with fail
    go_ret
    exact ⟨rfl, hb⟩
  · have d1 : decide ((200 : Int) < (len : Int)) = false := decide_eq_false h1
    by_cases h2 : (200 : Int) < (len' : Int)
    · have d2 : decide ((200 : Int) < (len' : Int)) = true := decide_eq_true h2
      clear h
      go_enter Try.func6, Try.ntmps6
      go_wp2_with fail
      refine (unhide HA _).mono ?_
      rintro _ w1 ⟨rfl, hb⟩
      go_wp2_with fail
      go_ret
      exact ⟨rfl, hb⟩
    · have d2 : decide ((200 : Int) < (len' : Int)) = false := decide_eq_false h2
      have h3 : k < 0 := by omega
      clear h
      go_enter Try.func6, Try.ntmps6
      go_wp2_with fail
      refine (unhide HA _).mono ?_
      rintro _ w1 ⟨rfl, hb⟩
      go_wp2_with fail
      go_ret
      exact ⟨rfl, hb⟩
set_option maxHeartbeats 1000000 in
set_option maxRecDepth 100000 in
theorem cuts_no {a : Option Addr} {len cap : Nat} {xs : List Int} {n : Int} {is : Bool} {len' cap' k : Nat} {a' : Option Addr} (W : World) (h1 : len ≤ 200) (h2 : len' ≤ 200)
    (HC : Hid (∀ W', Below W.heap.size W W' → Calls Try.prog 10 #[.slice a len cap] W' fun r W'' => r = .returned (.tuple #[.int .i64 n, .bool is]) ∧ Below W'.heap.size W' W''))
    (HCE : Hid (∀ W', Below W.heap.size W W' → ∀ j, j < len → ∃ b0 off0, a = some ⟨b0, off0, none⟩ ∧ W'.cell? ⟨b0, off0 + j, none⟩ = some (.int .u8 (xs.getD j 0))))
    (HLO : Hid (lows xs len = true → is = true ∧ n = (len : Int)))
    (HV : Hid (∀ W', Below W.heap.size W W' → Calls Try.prog 12 #[.slice a' len' cap'] W' fun r W'' => r = .returned (.bool false) ∧ Below W'.heap.size W' W'')) :
    Calls Try.prog 6 #[.slice a len cap, .slice a' len' cap', .int .i64 (k : Int)] W fun r W' => r = .returned (.bool true) ∧ Below W.heap.size W W' := by
  have HA := awake_any
  have d1 : decide ((200 : Int) < (len : Int)) = false := decide_eq_false (by omega)
  have d2 : decide ((200 : Int) < (len' : Int)) = false := decide_eq_false (by omega)
  have d3 : ¬ (k : Int) < 0 := by omega
  go_enter Try.func6, Try.ntmps6
  go_wp2_with fail
  refine (unhide HA _).mono ?_
  rintro _ w1 ⟨rfl, hb⟩
  have HB := hide hb
  clear hb
  go_wp2_with fail
  refine (unhide HC _ (unhide HB)).mono ?_
  rintro _ w2 ⟨rfl, hb⟩
  have HB := hide (bthen (unhide HB) hb)
  clear hb
  have HX := hide (fun j hj => (unhide HCE w2 (unhide HB) j hj))
  go_wp2_with fail
  go_loop [9, 34] (fun v9 v34 => ∃ i : Nat, i ≤ len ∧ v34 = .int .i64 (i : Int) ∧ v9 = .bool (lows xs i)) (fun _ v34 => len - (intOf v34).toNat)
  case atStart => exact ⟨0, by omega, rfl, rfl⟩
  case round =>
    obtain ⟨i, hi, rfl, rfl⟩ := hrel
    by_cases hlt : i < len
    · obtain ⟨b0, off0, rfl, hc⟩ := unhide HX i hlt
      have HS : Hid (lows xs (i + 1) = (lows xs i && decide (xs.getD i 0 < 128))) := hide rfl
      have hi' : (i : Int) < (len : Int) := by omega
      generalize xs.getD i 0 = y at *
      cases hlo : lows xs i
      · rw [hlo, Bool.false_and] at HS
        clear hlo
        go_wp2_with fail
        exact ⟨⟨i + 1, by omega, by go_num, by rw [unhide HS]⟩, by simp [intOf]; omega⟩
      · rw [hlo, Bool.true_and] at HS
        clear hlo
        go_wp2_with fail
        exact ⟨⟨i + 1, by omega, by go_num, by rw [unhide HS]⟩, by simp [intOf]; omega⟩
    · obtain rfl : i = len := by omega
      clear HX
      cases hlo : lows xs i
      · clear hlo
        go_wp2_with fail
        refine (unhide HV _ (unhide HB)).mono ?_
        rintro _ w3 ⟨rfl, hb⟩
        have HB := hide (bthen (unhide HB) hb)
        clear hb
        go_wp2_with fail
        go_ret
        exact ⟨by first | rfl | simp, unhide HB⟩
      · obtain ⟨rfl, rfl⟩ := unhide HLO hlo
        clear hlo
        go_wp2_with fail
        refine (unhide HV _ (unhide HB)).mono ?_
        rintro _ w3 ⟨rfl, hb⟩
        have HB := hide (bthen (unhide HB) hb)
        clear hb
        go_wp2_with fail
        go_ret
        exact ⟨by first | rfl | simp, unhide HB⟩
set_option maxHeartbeats 1000000 in
set_option maxRecDepth 100000 in
theorem cuts_far {a : Option Addr} {len cap : Nat} {xs : List Int} {n : Int} {is : Bool} {len' cap' k : Nat} {a' : Option Addr} (W : World) (h1 : len ≤ 200) (h2 : len' ≤ 200) (h3 : len' ≤ k)
    (HC : Hid (∀ W', Below W.heap.size W W' → Calls Try.prog 10 #[.slice a len cap] W' fun r W'' => r = .returned (.tuple #[.int .i64 n, .bool is]) ∧ Below W'.heap.size W' W''))
    (HCE : Hid (∀ W', Below W.heap.size W W' → ∀ j, j < len → ∃ b0 off0, a = some ⟨b0, off0, none⟩ ∧ W'.cell? ⟨b0, off0 + j, none⟩ = some (.int .u8 (xs.getD j 0))))
    (HLO : Hid (lows xs len = true → is = true ∧ n = (len : Int)))
    (HV : Hid (∀ W', Below W.heap.size W W' → Calls Try.prog 12 #[.slice a' len' cap'] W' fun r W'' => r = .returned (.bool true) ∧ Below W'.heap.size W' W'')) :
    Calls Try.prog 6 #[.slice a len cap, .slice a' len' cap', .int .i64 (k : Int)] W fun r W' => r = .returned (.bool true) ∧ Below W.heap.size W W' := by
  have HA := awake_any
  have d1 : decide ((200 : Int) < (len : Int)) = false := decide_eq_false (by omega)
  have d2 : decide ((200 : Int) < (len' : Int)) = false := decide_eq_false (by omega)
  have d3 : ¬ (k : Int) < 0 := by omega
  have d4 : (len' : Int) ≤ (k : Int) := by omega
  go_enter Try.func6, Try.ntmps6
  go_wp2_with fail
  refine (unhide HA _).mono ?_
  rintro _ w1 ⟨rfl, hb⟩
  have HB := hide hb
  clear hb
  go_wp2_with fail
  refine (unhide HC _ (unhide HB)).mono ?_
  rintro _ w2 ⟨rfl, hb⟩
  have HB := hide (bthen (unhide HB) hb)
  clear hb
  have HX := hide (fun j hj => (unhide HCE w2 (unhide HB) j hj))
  go_wp2_with fail
  go_loop [9, 34] (fun v9 v34 => ∃ i : Nat, i ≤ len ∧ v34 = .int .i64 (i : Int) ∧ v9 = .bool (lows xs i)) (fun _ v34 => len - (intOf v34).toNat)
  case atStart => exact ⟨0, by omega, rfl, rfl⟩
  case round =>
    obtain ⟨i, hi, rfl, rfl⟩ := hrel
    by_cases hlt : i < len
    · obtain ⟨b0, off0, rfl, hc⟩ := unhide HX i hlt
      have HS : Hid (lows xs (i + 1) = (lows xs i && decide (xs.getD i 0 < 128))) := hide rfl
      have hi' : (i : Int) < (len : Int) := by omega
      generalize xs.getD i 0 = y at *
      cases hlo : lows xs i
      · rw [hlo, Bool.false_and] at HS
        clear hlo
        go_wp2_with fail
        exact ⟨⟨i + 1, by omega, by go_num, by rw [unhide HS]⟩, by simp [intOf]; omega⟩
      · rw [hlo, Bool.true_and] at HS
        clear hlo
        go_wp2_with fail
        exact ⟨⟨i + 1, by omega, by go_num, by rw [unhide HS]⟩, by simp [intOf]; omega⟩
    · obtain rfl : i = len := by omega
      clear HX
      cases hlo : lows xs i
      · clear hlo
        go_wp2_with fail
        refine (unhide HV _ (unhide HB)).mono ?_
        rintro _ w3 ⟨rfl, hb⟩
        have HB := hide (bthen (unhide HB) hb)
        clear hb
        go_wp2_with fail
        go_ret
        exact ⟨by first | rfl | simp, unhide HB⟩
      · obtain ⟨rfl, rfl⟩ := unhide HLO hlo
        clear hlo
        go_wp2_with fail
        refine (unhide HV _ (unhide HB)).mono ?_
        rintro _ w3 ⟨rfl, hb⟩
        have HB := hide (bthen (unhide HB) hb)
        clear hb
        go_wp2_with fail
        go_ret
        exact ⟨by first | rfl | simp, unhide HB⟩
set_option maxHeartbeats 1000000 in
set_option maxRecDepth 100000 in
theorem cuts_in {a : Option Addr} {len cap : Nat} {xs : List Int} {n : Int} {is : Bool} {len' cap' k : Nat} {b off : Nat} {y : Int} (W : World) (h1 : len ≤ 200) (h2 : len' ≤ 200) (h3 : k < len') (h4 : len' ≤ cap') (hy : 128 ≤ y ∧ y < 192)
    (HC : Hid (∀ W', Below W.heap.size W W' → Calls Try.prog 10 #[.slice a len cap] W' fun r W'' => r = .returned (.tuple #[.int .i64 n, .bool is]) ∧ Below W'.heap.size W' W''))
    (HCE : Hid (∀ W', Below W.heap.size W W' → ∀ j, j < len → ∃ b0 off0, a = some ⟨b0, off0, none⟩ ∧ W'.cell? ⟨b0, off0 + j, none⟩ = some (.int .u8 (xs.getD j 0))))
    (HLO : Hid (lows xs len = true → is = true ∧ n = (len : Int)))
    (HCB : Hid (∀ W', Below W.heap.size W W' → W'.cell? ⟨b, off + k, none⟩ = some (.int .u8 y)))
    (HV : Hid (∀ W', Below W.heap.size W W' → Calls Try.prog 12 #[.slice (some ⟨b, off, none⟩) len' cap'] W' fun r W'' => r = .returned (.bool true) ∧ Below W'.heap.size W' W''))
    (HV1 : Hid (∀ W', Below W.heap.size W W' → Calls Try.prog 12 #[.slice (some ⟨b, off, none⟩) k cap'] W' fun r W'' => r = .returned (.bool false) ∧ Below W'.heap.size W' W''))
    (HV2 : Hid (∀ W', Below W.heap.size W W' → Calls Try.prog 12 #[.slice (some ⟨b, off + k, none⟩) (len' - k) (cap' - k)] W' fun r W'' => r = .returned (.bool false) ∧ Below W'.heap.size W' W'')) :
    Calls Try.prog 6 #[.slice a len cap, .slice (some ⟨b, off, none⟩) len' cap', .int .i64 (k : Int)] W fun r W' => r = .returned (.bool true) ∧ Below W.heap.size W W' := by
  have HA := awake_any
  have d1 : decide ((200 : Int) < (len : Int)) = false := decide_eq_false (by omega)
  have d2 : decide ((200 : Int) < (len' : Int)) = false := decide_eq_false (by omega)
  have d3 : ¬ (k : Int) < 0 := by omega
  have d4 : ¬ (len' : Int) ≤ (k : Int) := by omega
  have d5 : ¬ cap' = k := by omega
  have d6 : k ≤ cap' := by omega
  have e1 : 128 ≤ y := hy.1
  have e2 : decide (y < 192) = true := decide_eq_true hy.2
  clear hy
  go_enter Try.func6, Try.ntmps6
  go_wp2_with fail
  refine (unhide HA _).mono ?_
  rintro _ w1 ⟨rfl, hb⟩
  have HB := hide hb
  clear hb
  go_wp2_with fail
  refine (unhide HC _ (unhide HB)).mono ?_
  rintro _ w2 ⟨rfl, hb⟩
  have HB := hide (bthen (unhide HB) hb)
  clear hb
  have HX := hide (fun j hj => (unhide HCE w2 (unhide HB) j hj))
  go_wp2_with fail
  go_loop [9, 34] (fun v9 v34 => ∃ i : Nat, i ≤ len ∧ v34 = .int .i64 (i : Int) ∧ v9 = .bool (lows xs i)) (fun _ v34 => len - (intOf v34).toNat)
  case atStart => exact ⟨0, by omega, rfl, rfl⟩
  case round =>
    obtain ⟨i, hi, rfl, rfl⟩ := hrel
    by_cases hlt : i < len
    · obtain ⟨b0, off0, rfl, hc⟩ := unhide HX i hlt
      have HS : Hid (lows xs (i + 1) = (lows xs i && decide (xs.getD i 0 < 128))) := hide rfl
      have hi' : (i : Int) < (len : Int) := by omega
      generalize xs.getD i 0 = y at *
      cases hlo : lows xs i
      · rw [hlo, Bool.false_and] at HS
        clear hlo
        go_wp2_with fail
        exact ⟨⟨i + 1, by omega, by go_num, by rw [unhide HS]⟩, by simp [intOf]; omega⟩
      · rw [hlo, Bool.true_and] at HS
        clear hlo
        go_wp2_with fail
        exact ⟨⟨i + 1, by omega, by go_num, by rw [unhide HS]⟩, by simp [intOf]; omega⟩
    · obtain rfl : i = len := by omega
      clear HX
      cases hlo : lows xs i
      · clear hlo
        go_wp2_with fail
        refine (unhide HV _ (unhide HB)).mono ?_
        rintro _ w3 ⟨rfl, hb⟩
        have HB := hide (bthen (unhide HB) hb)
        clear hb
        have hcb := unhide HCB _ (unhide HB)
        go_wp2_with fail
        refine (unhide HV1 _ (unhide HB)).mono ?_
        rintro _ w4 ⟨rfl, hb⟩
        have HB := hide (bthen (unhide HB) hb)
        clear hb hcb
        go_wp2_with fail
        refine (unhide HV2 _ (unhide HB)).mono ?_
        rintro _ w5 ⟨rfl, hb⟩
        have HB := hide (bthen (unhide HB) hb)
        clear hb
        go_wp2_with fail
        go_ret
        exact ⟨by first | rfl | simp, unhide HB⟩
      · obtain ⟨rfl, rfl⟩ := unhide HLO hlo
        clear hlo
        go_wp2_with fail
        refine (unhide HV _ (unhide HB)).mono ?_
        rintro _ w3 ⟨rfl, hb⟩
        have HB := hide (bthen (unhide HB) hb)
        clear hb
        have hcb := unhide HCB _ (unhide HB)
        go_wp2_with fail
        refine (unhide HV1 _ (unhide HB)).mono ?_
        rintro _ w4 ⟨rfl, hb⟩
        have HB := hide (bthen (unhide HB) hb)
        clear hb hcb
        go_wp2_with fail
        refine (unhide HV2 _ (unhide HB)).mono ?_
        rintro _ w5 ⟨rfl, hb⟩
        have HB := hide (bthen (unhide HB) hb)
        clear hb
        go_wp2_with fail
        go_ret
        exact ⟨by first | rfl | simp, unhide HB⟩
set_option maxHeartbeats 1000000 in
set_option maxRecDepth 100000 in
theorem cuts_lo {a : Option Addr} {len cap : Nat} {xs : List Int} {n : Int} {is : Bool} {len' cap' k : Nat} {b off : Nat} {y : Int} (W : World) (h1 : len ≤ 200) (h2 : len' ≤ 200) (h3 : k < len') (h4 : len' ≤ cap') (hy : ¬ 128 ≤ y)
    (HC : Hid (∀ W', Below W.heap.size W W' → Calls Try.prog 10 #[.slice a len cap] W' fun r W'' => r = .returned (.tuple #[.int .i64 n, .bool is]) ∧ Below W'.heap.size W' W''))
    (HCE : Hid (∀ W', Below W.heap.size W W' → ∀ j, j < len → ∃ b0 off0, a = some ⟨b0, off0, none⟩ ∧ W'.cell? ⟨b0, off0 + j, none⟩ = some (.int .u8 (xs.getD j 0))))
    (HLO : Hid (lows xs len = true → is = true ∧ n = (len : Int)))
    (HCB : Hid (∀ W', Below W.heap.size W W' → W'.cell? ⟨b, off + k, none⟩ = some (.int .u8 y)))
    (HV : Hid (∀ W', Below W.heap.size W W' → Calls Try.prog 12 #[.slice (some ⟨b, off, none⟩) len' cap'] W' fun r W'' => r = .returned (.bool true) ∧ Below W'.heap.size W' W''))
    (HV1 : Hid (∀ W', Below W.heap.size W W' → Calls Try.prog 12 #[.slice (some ⟨b, off, none⟩) k cap'] W' fun r W'' => r = .returned (.bool true) ∧ Below W'.heap.size W' W''))
    (HV2 : Hid (∀ W', Below W.heap.size W W' → Calls Try.prog 12 #[.slice (some ⟨b, off + k, none⟩) (len' - k) (cap' - k)] W' fun r W'' => r = .returned (.bool true) ∧ Below W'.heap.size W' W'')) :
    Calls Try.prog 6 #[.slice a len cap, .slice (some ⟨b, off, none⟩) len' cap', .int .i64 (k : Int)] W fun r W' => r = .returned (.bool true) ∧ Below W.heap.size W W' := by
  have HA := awake_any
  have d1 : decide ((200 : Int) < (len : Int)) = false := decide_eq_false (by omega)
  have d2 : decide ((200 : Int) < (len' : Int)) = false := decide_eq_false (by omega)
  have d3 : ¬ (k : Int) < 0 := by omega
  have d4 : ¬ (len' : Int) ≤ (k : Int) := by omega
  have d5 : ¬ cap' = k := by omega
  have d6 : k ≤ cap' := by omega
  have e1 : ¬ 128 ≤ y := hy
  clear hy
  go_enter Try.func6, Try.ntmps6
  go_wp2_with fail
  refine (unhide HA _).mono ?_
  rintro _ w1 ⟨rfl, hb⟩
  have HB := hide hb
  clear hb
  go_wp2_with fail
  refine (unhide HC _ (unhide HB)).mono ?_
  rintro _ w2 ⟨rfl, hb⟩
  have HB := hide (bthen (unhide HB) hb)
  clear hb
  have HX := hide (fun j hj => (unhide HCE w2 (unhide HB) j hj))
  go_wp2_with fail
  go_loop [9, 34] (fun v9 v34 => ∃ i : Nat, i ≤ len ∧ v34 = .int .i64 (i : Int) ∧ v9 = .bool (lows xs i)) (fun _ v34 => len - (intOf v34).toNat)
  case atStart => exact ⟨0, by omega, rfl, rfl⟩
  case round =>
    obtain ⟨i, hi, rfl, rfl⟩ := hrel
    by_cases hlt : i < len
    · obtain ⟨b0, off0, rfl, hc⟩ := unhide HX i hlt
      have HS : Hid (lows xs (i + 1) = (lows xs i && decide (xs.getD i 0 < 128))) := hide rfl
      have hi' : (i : Int) < (len : Int) := by omega
      generalize xs.getD i 0 = y at *
      cases hlo : lows xs i
      · rw [hlo, Bool.false_and] at HS
        clear hlo
        go_wp2_with fail
        exact ⟨⟨i + 1, by omega, by go_num, by rw [unhide HS]⟩, by simp [intOf]; omega⟩
      · rw [hlo, Bool.true_and] at HS
        clear hlo
        go_wp2_with fail
        exact ⟨⟨i + 1, by omega, by go_num, by rw [unhide HS]⟩, by simp [intOf]; omega⟩
    · obtain rfl : i = len := by omega
      clear HX
      cases hlo : lows xs i
      · clear hlo
        go_wp2_with fail
        refine (unhide HV _ (unhide HB)).mono ?_
        rintro _ w3 ⟨rfl, hb⟩
        have HB := hide (bthen (unhide HB) hb)
        clear hb
        have hcb := unhide HCB _ (unhide HB)
        go_wp2_with fail
        refine (unhide HV1 _ (unhide HB)).mono ?_
        rintro _ w4 ⟨rfl, hb⟩
        have HB := hide (bthen (unhide HB) hb)
        clear hb hcb
        go_wp2_with fail
        refine (unhide HV2 _ (unhide HB)).mono ?_
        rintro _ w5 ⟨rfl, hb⟩
        have HB := hide (bthen (unhide HB) hb)
        clear hb
        go_wp2_with fail
        go_ret
        exact ⟨by first | rfl | simp, unhide HB⟩
      · obtain ⟨rfl, rfl⟩ := unhide HLO hlo
        clear hlo
        go_wp2_with fail
        refine (unhide HV _ (unhide HB)).mono ?_
        rintro _ w3 ⟨rfl, hb⟩
        have HB := hide (bthen (unhide HB) hb)
        clear hb
        have hcb := unhide HCB _ (unhide HB)
        go_wp2_with fail
        refine (unhide HV1 _ (unhide HB)).mono ?_
        rintro _ w4 ⟨rfl, hb⟩
        have HB := hide (bthen (unhide HB) hb)
        clear hb hcb
        go_wp2_with fail
        refine (unhide HV2 _ (unhide HB)).mono ?_
        rintro _ w5 ⟨rfl, hb⟩
        have HB := hide (bthen (unhide HB) hb)
        clear hb
        go_wp2_with fail
        go_ret
        exact ⟨by first | rfl | simp, unhide HB⟩
set_option maxHeartbeats 1000000 in
set_option maxRecDepth 100000 in
theorem cuts_hi {a : Option Addr} {len cap : Nat} {xs : List Int} {n : Int} {is : Bool} {len' cap' k : Nat} {b off : Nat} {y : Int} (W : World) (h1 : len ≤ 200) (h2 : len' ≤ 200) (h3 : k < len') (h4 : len' ≤ cap') (hy : 128 ≤ y ∧ ¬ y < 192)
    (HC : Hid (∀ W', Below W.heap.size W W' → Calls Try.prog 10 #[.slice a len cap] W' fun r W'' => r = .returned (.tuple #[.int .i64 n, .bool is]) ∧ Below W'.heap.size W' W''))
    (HCE : Hid (∀ W', Below W.heap.size W W' → ∀ j, j < len → ∃ b0 off0, a = some ⟨b0, off0, none⟩ ∧ W'.cell? ⟨b0, off0 + j, none⟩ = some (.int .u8 (xs.getD j 0))))
    (HLO : Hid (lows xs len = true → is = true ∧ n = (len : Int)))
    (HCB : Hid (∀ W', Below W.heap.size W W' → W'.cell? ⟨b, off + k, none⟩ = some (.int .u8 y)))
    (HV : Hid (∀ W', Below W.heap.size W W' → Calls Try.prog 12 #[.slice (some ⟨b, off, none⟩) len' cap'] W' fun r W'' => r = .returned (.bool true) ∧ Below W'.heap.size W' W''))
    (HV1 : Hid (∀ W', Below W.heap.size W W' → Calls Try.prog 12 #[.slice (some ⟨b, off, none⟩) k cap'] W' fun r W'' => r = .returned (.bool true) ∧ Below W'.heap.size W' W''))
    (HV2 : Hid (∀ W', Below W.heap.size W W' → Calls Try.prog 12 #[.slice (some ⟨b, off + k, none⟩) (len' - k) (cap' - k)] W' fun r W'' => r = .returned (.bool true) ∧ Below W'.heap.size W' W'')) :
    Calls Try.prog 6 #[.slice a len cap, .slice (some ⟨b, off, none⟩) len' cap', .int .i64 (k : Int)] W fun r W' => r = .returned (.bool true) ∧ Below W.heap.size W W' := by
  have HA := awake_any
  have d1 : decide ((200 : Int) < (len : Int)) = false := decide_eq_false (by omega)
  have d2 : decide ((200 : Int) < (len' : Int)) = false := decide_eq_false (by omega)
  have d3 : ¬ (k : Int) < 0 := by omega
  have d4 : ¬ (len' : Int) ≤ (k : Int) := by omega
  have d5 : ¬ cap' = k := by omega
  have d6 : k ≤ cap' := by omega
  have e1 : 128 ≤ y := hy.1
  have e2 : decide (y < 192) = false := decide_eq_false hy.2
  clear hy
  go_enter Try.func6, Try.ntmps6
  go_wp2_with fail
  refine (unhide HA _).mono ?_
  rintro _ w1 ⟨rfl, hb⟩
  have HB := hide hb
  clear hb
  go_wp2_with fail
  refine (unhide HC _ (unhide HB)).mono ?_
  rintro _ w2 ⟨rfl, hb⟩
  have HB := hide (bthen (unhide HB) hb)
  clear hb
  have HX := hide (fun j hj => (unhide HCE w2 (unhide HB) j hj))
  go_wp2_with fail
  go_loop [9, 34] (fun v9 v34 => ∃ i : Nat, i ≤ len ∧ v34 = .int .i64 (i : Int) ∧ v9 = .bool (lows xs i)) (fun _ v34 => len - (intOf v34).toNat)
  case atStart => exact ⟨0, by omega, rfl, rfl⟩
  case round =>
    obtain ⟨i, hi, rfl, rfl⟩ := hrel
    by_cases hlt : i < len
    · obtain ⟨b0, off0, rfl, hc⟩ := unhide HX i hlt
      have HS : Hid (lows xs (i + 1) = (lows xs i && decide (xs.getD i 0 < 128))) := hide rfl
      have hi' : (i : Int) < (len : Int) := by omega
      generalize xs.getD i 0 = y at *
      cases hlo : lows xs i
      · rw [hlo, Bool.false_and] at HS
        clear hlo
        go_wp2_with fail
        exact ⟨⟨i + 1, by omega, by go_num, by rw [unhide HS]⟩, by simp [intOf]; omega⟩
      · rw [hlo, Bool.true_and] at HS
        clear hlo
        go_wp2_with fail
        exact ⟨⟨i + 1, by omega, by go_num, by rw [unhide HS]⟩, by simp [intOf]; omega⟩
    · obtain rfl : i = len := by omega
      clear HX
      cases hlo : lows xs i
      · clear hlo
        go_wp2_with fail
        refine (unhide HV _ (unhide HB)).mono ?_
        rintro _ w3 ⟨rfl, hb⟩
        have HB := hide (bthen (unhide HB) hb)
        clear hb
        have hcb := unhide HCB _ (unhide HB)
        go_wp2_with fail
        refine (unhide HV1 _ (unhide HB)).mono ?_
        rintro _ w4 ⟨rfl, hb⟩
        have HB := hide (bthen (unhide HB) hb)
        clear hb hcb
        go_wp2_with fail
        refine (unhide HV2 _ (unhide HB)).mono ?_
        rintro _ w5 ⟨rfl, hb⟩
        have HB := hide (bthen (unhide HB) hb)
        clear hb
        go_wp2_with fail
        go_ret
        exact ⟨by first | rfl | simp, unhide HB⟩
      · obtain ⟨rfl, rfl⟩ := unhide HLO hlo
        clear hlo
        go_wp2_with fail
        refine (unhide HV _ (unhide HB)).mono ?_
        rintro _ w3 ⟨rfl, hb⟩
        have HB := hide (bthen (unhide HB) hb)
        clear hb
        have hcb := unhide HCB _ (unhide HB)
        go_wp2_with fail
        refine (unhide HV1 _ (unhide HB)).mono ?_
        rintro _ w4 ⟨rfl, hb⟩
        have HB := hide (bthen (unhide HB) hb)
        clear hb hcb
        go_wp2_with fail
        refine (unhide HV2 _ (unhide HB)).mono ?_
        rintro _ w5 ⟨rfl, hb⟩
        have HB := hide (bthen (unhide HB) hb)
        clear hb
        go_wp2_with fail
        go_ret
        exact ⟨by first | rfl | simp, unhide HB⟩
end Go.Proofs.Ytfjoejgioinfhaa
