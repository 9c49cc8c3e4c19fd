/- The law LebReads: its walks. -/
import Derived.Test.YtbmkhhkklglomaaLbV
import Derived.Test.YtbmkhhkklglomaaLbE
namespace Go.Proofs.Ytbmkhhkklglomaa
open Go.RowKit

set_option maxHeartbeats 1000000 in
set_option maxRecDepth 100000 in
theorem reads_big {a : Option Addr} {len cap : Nat} {k bits : Int} (W : World) (h : (1000 : Int) < (len : Int)) :
    Calls Try.prog 3 #[.slice a len cap, .int .i64 k, .int .i64 bits] W fun r W' => r = .returned (.bool true) ∧ Below W.heap.size W W' := by
  have HA := awake_any
  go_enter Try.func3, Try.ntmps3
  go_wp2_with fail
  refine (unhide HA _).mono ?_
  rintro _ w1 ⟨rfl, hb⟩
  go_wp2_with fail
  go_ret
  exact ⟨rfl, hb⟩
set_option maxHeartbeats 1000000 in
set_option maxRecDepth 100000 in
theorem reads_no {a : Option Addr} {len cap : Nat} {k bits : Int} (W : World) (hl : ¬ (1000 : Int) < (len : Int)) (h : (bits < 1 ∨ 64 < bits) ∨ k < 0 ∨ (len : Int) < k) :
    Calls Try.prog 3 #[.slice a len cap, .int .i64 k, .int .i64 bits] W fun r W' => r = .returned (.bool true) ∧ Below W.heap.size W W' := by
  have HA := awake_any
  have HU := hide (fun W => uint_no (a := a) (len := len) (cap := cap) (k := k) (bits := bits) (W := W) (by omega))
  have HS := hide (fun W => sint_no (a := a) (len := len) (cap := cap) (k := k) (bits := bits) (W := W) (by omega))
  have HH := hide h
  clear h
  go_enter Try.func3, Try.ntmps3
  go_wp2_with fail
  refine (unhide HA _).mono ?_
  rintro _ w1 ⟨rfl, hb1⟩
  go_wp2_with fail
  refine (unhide HU _).mono ?_
  rintro _ w2 ⟨rfl, hb2⟩
  go_wp2_with fail
  refine (unhide HS _).mono ?_
  rintro _ w3 ⟨rfl, hb3⟩
  have HB := hide (bthen (bthen hb1 hb2) hb3)
  clear hb1 hb2 hb3
  by_cases h1 : bits < 1
  · go_wp2_with fail
    go_ret
    exact ⟨rfl, unhide HB⟩
  · by_cases h2 : 64 < bits
    · go_wp2_with fail
      go_ret
      exact ⟨rfl, unhide HB⟩
    · by_cases h3 : k < 0
      · go_wp2_with fail
        go_ret
        exact ⟨rfl, unhide HB⟩
      · have h4 : (len : Int) < k := by have := unhide HH; omega
        go_wp2_with fail
        go_ret
        exact ⟨rfl, unhide HB⟩
set_option maxHeartbeats 1000000 in
set_option maxRecDepth 100000 in
theorem reads_w {a : Option Addr} {len cap k bits : Nat} {x i e y j f : Int} (W : World) (hl : ¬ (1000 : Int) < (len : Int)) (hk : k ≤ len) (b0 : 1 ≤ bits) (b1 : bits ≤ 64)
    (HU : Hid (∀ W', Below W.heap.size W W' → Calls Try.prog 8 #[.slice a len cap, .int .i64 (k : Int), .int .i64 (bits : Int)] W' fun r W'' => r = .returned (.tuple #[.int .u64 x, .int .i64 i, .int .i64 e]) ∧ Below W'.heap.size W' W''))
    (HS : Hid (∀ W', Below W.heap.size W W' → Calls Try.prog 9 #[.slice a len cap, .int .i64 (k : Int), .int .i64 (bits : Int)] W' fun r W'' => r = .returned (.tuple #[.int .u64 y, .int .i64 j, .int .i64 f]) ∧ Below W'.heap.size W' W''))
    (HV : Hid (∀ W', Below W.heap.size W W' → Calls Try.prog 10 #[.slice a len cap, .int .i64 (k : Int), .int .i64 (bits : Int)] W' fun r W'' => r = .returned (.tuple #[.int .u64 x, .int .i64 i, .int .i64 e]) ∧ Below W'.heap.size W' W''))
    (HT : Hid (∀ W', Below W.heap.size W W' → Calls Try.prog 11 #[.slice a len cap, .int .i64 (k : Int), .int .i64 (bits : Int)] W' fun r W'' => r = .returned (.tuple #[.int .u64 y, .int .i64 j, .int .i64 f]) ∧ Below W'.heap.size W' W'')) :
    Calls Try.prog 3 #[.slice a len cap, .int .i64 (k : Int), .int .i64 (bits : Int)] W fun r W' => r = .returned (.bool true) ∧ Below W.heap.size W W' := by
  have HA := awake_any
  go_enter Try.func3, Try.ntmps3
  go_wp2_with fail
  refine (unhide HA _).mono ?_
  rintro _ w1 ⟨rfl, hb1⟩
  have HB := hide hb1
  clear hb1
  go_wp2_with fail
  refine (unhide HU _ (unhide HB)).mono ?_
  rintro _ w2 ⟨rfl, hb1⟩
  have HB := hide (bthen (unhide HB) hb1)
  clear hb1
  go_wp2_with fail
  refine (unhide HS _ (unhide HB)).mono ?_
  rintro _ w3 ⟨rfl, hb1⟩
  have HB := hide (bthen (unhide HB) hb1)
  clear hb1
  go_wp2_with fail
  refine (unhide HV _ (unhide HB)).mono ?_
  rintro _ w4 ⟨rfl, hb1⟩
  have HB := hide (bthen (unhide HB) hb1)
  clear hb1
  go_wp2_with fail
  refine (unhide HT _ (unhide HB)).mono ?_
  rintro _ w5 ⟨rfl, hb1⟩
  have HB := hide (bthen (unhide HB) hb1)
  clear hb1
  go_wp2_with fail
  go_ret
  exact ⟨by first | rfl | simp, unhide HB⟩
theorem reads_any {a : Option Addr} {len cap : Nat} {xs : List Int} (k bits : Int) (W : World) (hX : Byt xs) (hS : len ≤ 140737488355328 → Sl W a len cap xs) :
    Calls Try.prog 3 #[.slice a len cap, .int .i64 k, .int .i64 bits] W fun r W' => r = .returned (.bool true) ∧ Below W.heap.size W W' := by
  by_cases hl : (1000 : Int) < (len : Int)
  · exact reads_big W hl
  · have hS := hS (by omega)
    by_cases h : (bits < 1 ∨ 64 < bits) ∨ k < 0 ∨ (len : Int) < k
    · exact reads_no W hl h
    · obtain ⟨k', rfl⟩ := Int.eq_ofNat_of_zero_le (show 0 ≤ k by omega)
      obtain ⟨b', rfl⟩ := Int.eq_ofNat_of_zero_le (show 0 ≤ bits by omega)
      exact reads_w W hl (by omega) (by omega) (by omega)
        (hide fun W' hb => uint_any (hide hX) (hide (hS.below hb)) (by omega) (by omega) (by omega))
        (hide fun W' hb => sint_any (hide hX) (hide (hS.below hb)) (by omega) (by omega) (by omega))
        (hide fun W' hb => refUint_any (hide hX) len k' b' W' (hide (hS.below hb)) (by omega) (by omega) (by omega) (by omega))
        (hide fun W' hb => refSint_any (hide hX) len k' b' W' (hide (hS.below hb)) (by omega) (by omega) (by omega) (by omega))
end Go.Proofs.Ytbmkhhkklglomaa
