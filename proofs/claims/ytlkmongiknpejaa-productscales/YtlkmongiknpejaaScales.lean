/- The statement ProductScales: its walks, over any list. -/
import Derived.Test.YtlkmongiknpejaaProdD
namespace Go.Proofs.Ytlkmongiknpejaa
open Go.RowKit
open Go.Proofs.Ytlkmongiknpejaa.W

set_option maxRecDepth 100000 in
set_option maxHeartbeats 2000000 in
theorem scales_big {w N : Int} (a : Option Addr) (len cap : Nat) (W : World) (h : (100 : Int) < (len : Int)) (HW : Hid (∀ W, Calls Try.prog 7 #[] W fun r W' => r = .returned (.bool true) ∧ Below W.heap.size W W')) :
    Calls Try.prog 4 #[.int .i64 w, .int .i64 N, .slice a len cap] W fun r W' => r = .returned (.bool true) ∧ Below W.heap.size W W' := by
  go_enter Try.func4, Try.ntmps4
  go_wp2_with fail
  refine (unhide HW _).mono ?_
  rintro _ w1 ⟨rfl, hb⟩
  go_wp2_with fail
  go_ret
  exact ⟨rfl, hb⟩
set_option maxRecDepth 100000 in
set_option maxHeartbeats 2000000 in
theorem scales_no {w N : Int} (a : Option Addr) (len cap : Nat) (W : World) (h : ¬ (100 : Int) < (len : Int)) (HW : Hid (∀ W, Calls Try.prog 7 #[] W fun r W' => r = .returned (.bool true) ∧ Below W.heap.size W W'))
    (HT : Hid (∀ W', Below W.heap.size W W' → Calls Try.prog 11 #[.int .i64 w, .slice a len cap] W' fun r W'' => r = .returned (.int .u64 0) ∧ Below W'.heap.size W' W''))
    (HK : Hid (∀ W, Calls Try.prog 9 #[.int .i64 w] W fun r W' => r = .returned (.bool false) ∧ Below W.heap.size W W')) (HS : Hid (∀ W, Calls Try.prog 12 #[.int .i64 w, .int .u64 1, .int .i64 N] W fun r W' => r = .returned (.int .u64 0) ∧ Below W.heap.size W W')) :
    Calls Try.prog 4 #[.int .i64 w, .int .i64 N, .slice a len cap] W fun r W' => r = .returned (.bool true) ∧ Below W.heap.size W W' := by
  go_enter Try.func4, Try.ntmps4
  go_wp2_with fail
  refine (unhide HW _).mono ?_
  rintro _ w1 ⟨rfl, hb⟩
  go_wp2_with fail
  refine (unhide HT _ hb).mono ?_
  rintro _ w2 ⟨rfl, hb2⟩
  go_wp2_with fail
  refine (unhide HK _).mono ?_
  rintro _ w3 ⟨rfl, hb3⟩
  go_wp2_with fail
  refine (unhide HS _).mono ?_
  rintro _ w4 ⟨rfl, hb4⟩
  go_wp2_with fail
  go_ret
  exact ⟨rfl, bthen (bthen (bthen hb hb2) hb3) hb4⟩
set_option maxRecDepth 100000 in
set_option maxHeartbeats 2000000 in
theorem scales_l {w N o v : Int} {A : Int → Int → Int} (a : Option Addr) (len cap : Nat) (zs : List Int) (W : World) (hr : Rd W a len zs) (h : ¬ (100 : Int) < (len : Int)) (hz : ∀ z ∈ zs, Wrd z) (ho : Wrd o) (hA : ∀ s z, Wrd s → Wrd z → Wrd (A s z))
    (HW' : Hid (∀ W, Calls Try.prog 7 #[] W fun r W' => r = .returned (.bool true) ∧ Below W.heap.size W W'))
    (HT : Hid (∀ W', Below W.heap.size W W' → Calls Try.prog 11 #[.int .i64 w, .slice a len cap] W' fun r W'' => r = .returned (.int .u64 v) ∧ Below W'.heap.size W' W'')) (HV : Hid (prods A o zs = v))
    (HK : Hid (∀ W, Calls Try.prog 9 #[.int .i64 w] W fun r W' => r = .returned (.bool true) ∧ Below W.heap.size W W')) (HO : Hid (∀ W, Calls Try.prog 13 #[.int .i64 w] W fun r W' => r = .returned (.int .u64 o) ∧ Below W.heap.size W W'))
    (HA : Hid (∀ s z, Wrd s → Wrd z → ∀ W, Calls Try.prog 10 #[.int .i64 w, .int .u64 s, .int .u64 z] W fun r W' => r = .returned (.int .u64 (A s z)) ∧ Below W.heap.size W W'))
    (HS : Hid (∀ z, Wrd z → ∃ u, (∀ W, Calls Try.prog 12 #[.int .i64 w, .int .u64 z, .int .i64 N] W fun r W' => r = .returned (.int .u64 u) ∧ Below W.heap.size W W') ∧ (∀ W, Calls Try.prog 14 #[.int .i64 w, .int .u64 z, .int .i64 N] W fun r W' => r = .returned (.int .u64 u) ∧ Below W.heap.size W W'))) :
    Calls Try.prog 4 #[.int .i64 w, .int .i64 N, .slice a len cap] W fun r W' => r = .returned (.bool true) ∧ Below W.heap.size W W' := by
  have HR := hide hr
  have HW := hide (fun k => prods_wrd hA ho hz k)
  have Hz := hide hz
  clear hr hA hz ho
  go_enter Try.func4, Try.ntmps4
  go_wp2_with fail
  refine (unhide HW' _).mono ?_
  rintro _ w1 ⟨rfl, hb1⟩
  go_wp2_with fail
  refine (unhide HT _ hb1).mono ?_
  rintro _ w2 ⟨rfl, hb2⟩
  go_wp2_with fail
  refine (unhide HK _).mono ?_
  rintro _ w3 ⟨rfl, hb3⟩
  go_wp2_with fail
  refine (unhide HO _).mono ?_
  rintro _ w4 ⟨rfl, hb4⟩
  have hb3 := bthen (bthen (bthen hb1 hb2) hb3) hb4
  go_wp2_with fail
  go_loopw [8, 34] (fun t i wr => ∃ k : Nat, k ≤ len ∧ i = .int .i64 k ∧ t = .int .u64 (prods A o (zs.take k)) ∧ Below W.heap.size W wr) (fun _ i _ => len - (intOf i).toNat)
  case atStart => exact ⟨0, by omega, rfl, rfl, hb3⟩
  case round =>
    obtain ⟨k, hk, rfl, rfl, hb⟩ := hrel
    by_cases hl : k < len
    · obtain ⟨b, off, rfl, hc⟩ := ((unhide HR).below hb).2 k hl
      have HP := hide (prods_step A o zs k (by have := (unhide HR).1; omega))
      have hwz : Wrd (zs.getD k 0) := unhide Hz (zs.getD k 0) (by
        have := (unhide HR).1
        rw [List.getD_eq_getElem?_getD, List.getElem?_eq_getElem (show k < zs.length by omega)]
        exact List.getElem_mem _)
      have HX := hide (unhide HA _ _ (unhide HW k) hwz)
      obtain ⟨u, hu1, hu2⟩ := unhide HS _ hwz
      have HU1 := hide hu1
      have HU2 := hide hu2
      clear hu1 hu2 hwz
      generalize prods A o (zs.take k) = s at *
      generalize zs.getD k 0 = z at *
      have hli : (k : Int) < (len : Int) := by omega
      go_wp2_with fail
      refine (unhide HX _).mono ?_
      rintro _ w5 ⟨rfl, hb5⟩
      go_wp2_with fail
      refine (unhide HU1 _).mono ?_
      rintro _ w6 ⟨rfl, hb6⟩
      go_wp2_with fail
      refine (unhide HU2 _).mono ?_
      rintro _ w7 ⟨rfl, hb7⟩
      go_wp2_with fail
      go_roundw
      case rel => exact ⟨k + 1, by omega, by go_num, by rw [unhide HP], bthen (bthen (bthen hb hb5) hb6) hb7⟩
      case measure => simp [intOf]; omega
    · have hli : ¬ (k : Int) < (len : Int) := by omega
      have HE : prods A o (zs.take k) = v := by
        have := (unhide HR).1
        rw [List.take_of_length_le (by omega), unhide HV]
      rw [HE]
      go_wp2_with fail
      go_ret
      exact ⟨by first | rfl | simp, hb⟩

end Go.Proofs.Ytlkmongiknpejaa
