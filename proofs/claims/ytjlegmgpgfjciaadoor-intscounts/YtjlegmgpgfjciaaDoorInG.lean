/- The reference's Run, Count, LtS. -/
import Derived.Test.YtjlegmgpgfjciaaDoorInL
import Derived.Test.YtjlegmgpgfjciaaDoorInS
import Derived.Test.YtjlegmgpgfjciaaDoorInD
namespace Go.Proofs.YtjlegmgpgfjciaaDoor
open Go.RowKit

set_option maxHeartbeats 4000000 in
set_option maxRecDepth 100000 in
theorem run_w {a : Int} {n A r : Nat} {up : Bool} (hn : n ≤ 64) (hr : r ≤ n) (hz : ∀ i, i < r → A.testBit (if up then n - 1 - i else i) = false) (ht : r < n → A.testBit (if up then n - 1 - r else r) = true) (HL : Hid (∀ W, Calls Tryd.prog 34 #[.int .i64 (n : Int), .int .u64 a] W fun e w' => ∃ s, e = .returned s ∧ HoldsB w' s A.testBit n ∧ Below W.heap.size W w')) :
    Ct 12 #[.int .i64 (n : Int), .int .u64 a, .bool up] (.int .u64 (r : Int)) := by
  have HZ := hide hz
  have HT := hide ht
  clear hz ht
  refine hide (fun W => ?_)
  go_enter Tryd.func12, Tryd.ntmps12
  go_wp2_with fail
  refine (unhide HL _).mono ?_
  rintro _ w1 ⟨s1, rfl, hH, hb⟩
  have HW := hide hb
  obtain ⟨b, c, rfl, h2, h3, h4⟩ := hH
  have H4 := hide h4
  clear hb h4
  go_wp2_with fail
  go_loop [8, 9] (fun v8 v9 => ∃ i : Nat, i ≤ r ∧ v8 = .int .u64 (i : Int) ∧ v9 = .int .i64 (i : Int)) (fun _ v9 => n - (intOf v9).toNat)
  case atStart => exact ⟨0, by omega, rfl, rfl⟩
  case round =>
    obtain ⟨i, hi, rfl, rfl⟩ := hrel
    have ew : IntKind.u64.wrap ((i : Int) + 1) = (i : Int) + 1 := by rw [IntKind.wrap_u64]; omega
    by_cases hc : i < n
    · have hq : i < r → A.testBit (if up then n - 1 - i else i) = false := unhide HZ i
      have hq2 : i = r → A.testBit (if up then n - 1 - i else i) = true := fun h => by subst h; exact unhide HT hc
      cases up
      · have hcm := unhide H4 i hc
        rw [if_neg (by decide)] at hq hq2
        by_cases h : i < r
        · rw [hq h] at hcm
          go_wp2_with fail
          exact ⟨⟨i + 1, by omega, by go_num, by go_num⟩, by simp [intOf]; omega⟩
        · rw [hq2 (by omega)] at hcm
          have hir : i = r := by omega
          subst hir
          go_wp2_with fail
          go_ret
          exact ⟨rfl, unhide HW⟩
      · rw [if_pos rfl] at hq hq2
        have hcm := unhide H4 (n - 1 - i) (by omega)
        have hK : (n : Int) - 1 - (i : Int) = ((n - 1 - i : Nat) : Int) := by omega
        have hKn : n - 1 - i < n := by omega
        generalize n - 1 - i = K at *
        by_cases h : i < r
        · rw [hq h] at hcm
          go_wp2_with fail
          exact ⟨⟨i + 1, by omega, by go_num, by go_num⟩, by simp [intOf]; omega⟩
        · rw [hq2 (by omega)] at hcm
          have hir : i = r := by omega
          subst hir
          go_wp2_with fail
          go_ret
          exact ⟨rfl, unhide HW⟩
    · have hir : i = r := by omega
      subst hir
      go_wp2_with fail
      go_ret
      exact ⟨rfl, unhide HW⟩
set_option maxHeartbeats 4000000 in
set_option maxRecDepth 100000 in
theorem count_w {a : Int} {n A : Nat} (hn : n ≤ 64) (HL : Hid (∀ W, Calls Tryd.prog 34 #[.int .i64 (n : Int), .int .u64 a] W fun e w' => ∃ s, e = .returned s ∧ HoldsB w' s A.testBit n ∧ Below W.heap.size W w')) :
    Ct 13 #[.int .i64 (n : Int), .int .u64 a] (.int .u64 (pop n A : Nat)) := by
  refine hide (fun W => ?_)
  go_enter Tryd.func13, Tryd.ntmps13
  go_wp2_with fail
  refine (unhide HL _).mono ?_
  rintro _ w1 ⟨s1, rfl, hH, hb⟩
  have HW := hide hb
  obtain ⟨b, c, rfl, h2, h3, h4⟩ := hH
  have H4 := hide h4
  clear hb h4
  go_wp2_with fail
  go_loop [6, 7] (fun v6 v7 => ∃ i : Nat, i ≤ n ∧ v6 = .int .u64 ((pop i A : Nat) : Int) ∧ v7 = .int .i64 (i : Int)) (fun _ v7 => n - (intOf v7).toNat)
  case atStart => exact ⟨0, by omega, rfl, rfl⟩
  case round =>
    obtain ⟨i, hi, rfl, rfl⟩ := hrel
    have hp := pop_bit i A
    have hle := pop_le i A
    by_cases hc : i < n
    · have hcm := unhide H4 i hc
      generalize pop i A = z at *
      have ew : IntKind.u64.wrap ((z : Int) + 1) = (z : Int) + 1 := by rw [IntKind.wrap_u64]; omega
      cases hg : A.testBit i
      · rw [hg] at hcm hp
        have hp' : pop (i + 1) A = z := hp
        go_wp2_with fail
        exact ⟨⟨i + 1, by omega, by rw [hp'], by go_num⟩, by simp [intOf]; omega⟩
      · rw [hg] at hcm hp
        have hp' : pop (i + 1) A = z + 1 := hp
        go_wp2_with fail
        exact ⟨⟨i + 1, by omega, by rw [hp']; rfl, by go_num⟩, by simp [intOf]; omega⟩
    · have hin : i = n := by omega
      subst hin
      go_wp2_with fail
      go_ret
      exact ⟨rfl, unhide HW⟩
set_option maxHeartbeats 4000000 in
set_option maxRecDepth 100000 in
theorem rlts_tt {w a b m n : Int} (H1 : Ct 35 #[.int .i64 w, .int .u64 a] (.tuple #[.bool true, .int .u64 m])) (H2 : Ct 35 #[.int .i64 w, .int .u64 b] (.tuple #[.bool true, .int .u64 n])) : Ct 14 #[.int .i64 w, .int .u64 a, .int .u64 b] (.bool (decide (n < m))) := by
  refine hide (fun W => ?_)
  have HB := hide (Below.refl W.heap.size W)
  go_enter Tryd.func14, Tryd.ntmps14
  go_wp2_with fail
  refine (unhide H1 _).mono ?_
  rintro _ w1 ⟨rfl, hb⟩
  have HB := hide (bthen (unhide HB) hb)
  clear hb
  go_wp2_with fail
  refine (unhide H2 _).mono ?_
  rintro _ w2 ⟨rfl, hb⟩
  have HB := hide (bthen (unhide HB) hb)
  clear hb
  go_wp2_with fail
  go_ret
  exact ⟨rfl, unhide HB⟩
set_option maxHeartbeats 4000000 in
set_option maxRecDepth 100000 in
theorem rlts_tf {w a b m n : Int} (H1 : Ct 35 #[.int .i64 w, .int .u64 a] (.tuple #[.bool true, .int .u64 m])) (H2 : Ct 35 #[.int .i64 w, .int .u64 b] (.tuple #[.bool false, .int .u64 n])) : Ct 14 #[.int .i64 w, .int .u64 a, .int .u64 b] (.bool true) := by
  refine hide (fun W => ?_)
  have HB := hide (Below.refl W.heap.size W)
  go_enter Tryd.func14, Tryd.ntmps14
  go_wp2_with fail
  refine (unhide H1 _).mono ?_
  rintro _ w1 ⟨rfl, hb⟩
  have HB := hide (bthen (unhide HB) hb)
  clear hb
  go_wp2_with fail
  refine (unhide H2 _).mono ?_
  rintro _ w2 ⟨rfl, hb⟩
  have HB := hide (bthen (unhide HB) hb)
  clear hb
  go_wp2_with fail
  go_ret
  exact ⟨rfl, unhide HB⟩
set_option maxHeartbeats 4000000 in
set_option maxRecDepth 100000 in
theorem rlts_ft {w a b m n : Int} (H1 : Ct 35 #[.int .i64 w, .int .u64 a] (.tuple #[.bool false, .int .u64 m])) (H2 : Ct 35 #[.int .i64 w, .int .u64 b] (.tuple #[.bool true, .int .u64 n])) : Ct 14 #[.int .i64 w, .int .u64 a, .int .u64 b] (.bool false) := by
  refine hide (fun W => ?_)
  have HB := hide (Below.refl W.heap.size W)
  go_enter Tryd.func14, Tryd.ntmps14
  go_wp2_with fail
  refine (unhide H1 _).mono ?_
  rintro _ w1 ⟨rfl, hb⟩
  have HB := hide (bthen (unhide HB) hb)
  clear hb
  go_wp2_with fail
  refine (unhide H2 _).mono ?_
  rintro _ w2 ⟨rfl, hb⟩
  have HB := hide (bthen (unhide HB) hb)
  clear hb
  go_wp2_with fail
  go_ret
  exact ⟨rfl, unhide HB⟩
set_option maxHeartbeats 4000000 in
set_option maxRecDepth 100000 in
theorem rlts_ff {w a b m n : Int} (H1 : Ct 35 #[.int .i64 w, .int .u64 a] (.tuple #[.bool false, .int .u64 m])) (H2 : Ct 35 #[.int .i64 w, .int .u64 b] (.tuple #[.bool false, .int .u64 n])) : Ct 14 #[.int .i64 w, .int .u64 a, .int .u64 b] (.bool (decide (m < n))) := by
  refine hide (fun W => ?_)
  have HB := hide (Below.refl W.heap.size W)
  go_enter Tryd.func14, Tryd.ntmps14
  go_wp2_with fail
  refine (unhide H1 _).mono ?_
  rintro _ w1 ⟨rfl, hb⟩
  have HB := hide (bthen (unhide HB) hb)
  clear hb
  go_wp2_with fail
  refine (unhide H2 _).mono ?_
  rintro _ w2 ⟨rfl, hb⟩
  have HB := hide (bthen (unhide HB) hb)
  clear hb
  go_wp2_with fail
  go_ret
  exact ⟨rfl, unhide HB⟩
theorem rlts_K {w H M : Int} {n : Nat} (k : Wm w n H M) {a b : Int} (ha : Rg a) (hb : Rg b) : Ct 14 #[.int .i64 w, .int .u64 a, .int .u64 b] (.bool (decide (sgv H M a < sgv H M b))) := by
  have H1 := signed_K k ha
  have H2 := signed_K k hb
  generalize sgv H M a = x at *
  generalize sgv H M b = y at *
  by_cases g1 : x < 0
  · rw [decide_eq_true g1] at H1
    by_cases g2 : y < 0
    · rw [decide_eq_true g2] at H2
      rw [show decide (x < y) = decide ((y.natAbs : Int) < (x.natAbs : Int)) from decide_eq_decide.mpr (by omega)]
      exact rlts_tt H1 H2
    · rw [decide_eq_false g2] at H2
      rw [decide_eq_true (show x < y by omega)]
      exact rlts_tf H1 H2
  · rw [decide_eq_false g1] at H1
    by_cases g2 : y < 0
    · rw [decide_eq_true g2] at H2
      rw [decide_eq_false (show ¬ x < y by omega)]
      exact rlts_ft H1 H2
    · rw [decide_eq_false g2] at H2
      rw [show decide (x < y) = decide ((x.natAbs : Int) < (y.natAbs : Int)) from decide_eq_decide.mpr (by omega)]
      exact rlts_ff H1 H2
end Go.Proofs.YtjlegmgpgfjciaaDoor
