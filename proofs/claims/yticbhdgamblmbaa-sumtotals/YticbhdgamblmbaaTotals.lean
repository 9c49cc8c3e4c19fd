/- The statement SumTotals: its walks, over any list. -/
import Derived.Test.YticbhdgamblmbaaTotal
namespace Go.Proofs.Yticbhdgamblmbaa
open Go.RowKit

set_option maxRecDepth 100000 in
set_option maxHeartbeats 2000000 in
theorem totals_big {w : Int} (a : Option Addr) (len cap : Nat) (W : World) (h : (100 : Int) < (len : Int))
    (HW : Hid (∀ W, Calls Try.prog 8 #[] W fun r W' => r = .returned (.bool true) ∧ Below W.heap.size W W')) :
    Calls Try.prog 4 #[.int .i64 w, .slice a len cap] W fun r W' => r = .returned (.bool true) ∧ Below W.heap.size W W' := by
  go_enter Try.func4, Try.ntmps4
  go_wp2_with fail
  refine (unhide HW _).mono ?_
  rintro _ w1 ⟨rfl, hb⟩
  go_wp2_with fail
  go_ret
  exact ⟨rfl, hb⟩
set_option maxRecDepth 100000 in
set_option maxHeartbeats 2000000 in
theorem totals_no {w : Int} (a : Option Addr) (len cap : Nat) (W : World) (h : ¬ (100 : Int) < (len : Int))
    (HW : Hid (∀ W, Calls Try.prog 8 #[] W fun r W' => r = .returned (.bool true) ∧ Below W.heap.size W W'))
    (HT : Hid (∀ W', Below W.heap.size W W' → Calls Try.prog 14 #[.int .i64 w, .slice a len cap] W' fun r W'' => r = .returned (.int .u64 0) ∧ Below W'.heap.size W' W''))
    (HK : Hid (∀ W, Calls Try.prog 11 #[.int .i64 w] W fun r W' => r = .returned (.bool false) ∧ Below W.heap.size W W')) :
    Calls Try.prog 4 #[.int .i64 w, .slice a len cap] W fun r W' => r = .returned (.bool true) ∧ Below W.heap.size W W' := by
  go_enter Try.func4, Try.ntmps4
  go_wp2_with fail
  refine (unhide HW _).mono ?_
  rintro _ w1 ⟨rfl, hb⟩
  go_wp2_with fail
  refine (unhide HT _ hb).mono ?_
  rintro _ w2 ⟨rfl, hb2⟩
  go_wp2_with fail
  refine (unhide HK _).mono ?_
  rintro _ w3 ⟨rfl, hb3⟩
  go_wp2_with fail
  go_ret
  exact ⟨rfl, bthen (bthen hb hb2) hb3⟩
set_option maxRecDepth 100000 in
set_option maxHeartbeats 2000000 in
theorem totals_l {w v : Int} {A : Int → Int → Int} (a : Option Addr) (len cap : Nat) (zs : List Int) (W : World) (hr : Rd W a len zs) (h : ¬ (100 : Int) < (len : Int)) (hz : ∀ z ∈ zs, Wrd z) (hA : ∀ s z, Wrd s → Wrd z → Wrd (A s z))
    (HW' : Hid (∀ W, Calls Try.prog 8 #[] W fun r W' => r = .returned (.bool true) ∧ Below W.heap.size W W'))
    (HT : Hid (∀ W', Below W.heap.size W W' → Calls Try.prog 14 #[.int .i64 w, .slice a len cap] W' fun r W'' => r = .returned (.int .u64 v) ∧ Below W'.heap.size W' W'')) (HV : Hid (sums A zs = v))
    (HK : Hid (∀ W, Calls Try.prog 11 #[.int .i64 w] W fun r W' => r = .returned (.bool true) ∧ Below W.heap.size W W'))
    (HA : Hid (∀ s z, Wrd s → Wrd z → ∀ W, Calls Try.prog 12 #[.int .i64 w, .int .u64 s, .int .u64 z] W fun r W' => r = .returned (.int .u64 (A s z)) ∧ Below W.heap.size W W')) :
    Calls Try.prog 4 #[.int .i64 w, .slice a len cap] W fun r W' => r = .returned (.bool true) ∧ Below W.heap.size W W' := by
  have HR := hide hr
  have HW := hide (fun k => sums_wrd hA hz k)
  have Hz := hide hz
  clear hr hA hz
  go_enter Try.func4, Try.ntmps4
  go_wp2_with fail
  refine (unhide HW' _).mono ?_
  rintro _ w1 ⟨rfl, hb1⟩
  go_wp2_with fail
  refine (unhide HT _ hb1).mono ?_
  rintro _ w2 ⟨rfl, hb2⟩
  go_wp2_with fail
  refine (unhide HK _).mono ?_
  rintro _ w3 ⟨rfl, hb3⟩
  have hb3 := bthen (bthen hb1 hb2) hb3
  go_wp2_with fail
  go_loopw [6, 24] (fun t i wr => ∃ k : Nat, k ≤ len ∧ i = .int .i64 k ∧ t = .int .u64 (sums A (zs.take k)) ∧ Below W.heap.size W wr) (fun _ i _ => len - (intOf i).toNat)
  case atStart => exact ⟨0, by omega, rfl, rfl, hb3⟩
  case round =>
    obtain ⟨k, hk, rfl, rfl, hb⟩ := hrel
    by_cases hl : k < len
    · obtain ⟨b, off, rfl, hc⟩ := ((unhide HR).below hb).2 k hl
      have HS := hide (sums_step A zs k (by have := (unhide HR).1; omega))
      have HX := unhide HA _ _ (unhide HW k) (unhide Hz (zs.getD k 0) (by
        have := (unhide HR).1
        rw [List.getD_eq_getElem?_getD, List.getElem?_eq_getElem (show k < zs.length by omega)]
        exact List.getElem_mem _))
      have HX := hide HX
      generalize sums A (zs.take k) = s at *
      generalize zs.getD k 0 = z at *
      have hli : (k : Int) < (len : Int) := by omega
      go_wp2_with fail
      refine (unhide HX _).mono ?_
      rintro _ w4 ⟨rfl, hb4⟩
      go_wp2_with fail
      go_roundw
      case rel => exact ⟨k + 1, by omega, by go_num, by rw [unhide HS], bthen hb hb4⟩
      case measure => simp [intOf]; omega
    · have hli : ¬ (k : Int) < (len : Int) := by omega
      have HE : sums A (zs.take k) = v := by
        have := (unhide HR).1
        rw [List.take_of_length_le (by omega), unhide HV]
      rw [HE]
      go_wp2_with fail
      go_ret
      exact ⟨by first | rfl | simp, hb⟩

end Go.Proofs.Yticbhdgamblmbaa
