/- UtB. -/
import Derived.Test.YtjoonmpjcophnaaGreatDoorUa09
namespace Go.Proofs.YtjoonmpjcophnaaGreatDoor
open Go.RowKit

set_option maxHeartbeats 1000000 in
set_option maxRecDepth 100000 in
theorem size_at (c : Int) : Hid (∀ W, Calls Tryz.prog 164 #[.int .i32 c] W fun r W' => r = .returned (.int .i64 (sz c : Int)) ∧ W' = W) := by
  refine hide (fun W => ?_)
  rcases sz_ways c with ⟨e, h⟩ | ⟨e, h1, h2⟩ | ⟨e, h1, h2⟩ | ⟨e, h1, h2, h3⟩ | ⟨e, h1, h2⟩
  · rw [e]
    clear e
    rcases h with h | h | h
    · go_enter Tryz.func164, Tryz.ntmps164
      go_wp2_with fail
      go_ret
      exact ⟨rfl, rfl⟩
    · have a1 : decide (c < 0) = false := decide_eq_false (by omega)
      have a2 : decide (55296 ≤ c) = true := decide_eq_true h.1
      have a3 : decide (c ≤ 57343) = true := decide_eq_true h.2
      clear h
      go_enter Tryz.func164, Tryz.ntmps164
      go_wp2_with fail
      go_ret
      exact ⟨rfl, rfl⟩
    · have a1 : decide (c < 0) = false := decide_eq_false (by omega)
      have a2 : decide (55296 ≤ c) = true := decide_eq_true (by omega)
      have a3 : decide (c ≤ 57343) = false := decide_eq_false (by omega)
      go_enter Tryz.func164, Tryz.ntmps164
      go_wp2_with fail
      go_ret
      exact ⟨rfl, rfl⟩
  · rw [e]
    clear e
    have a1 : decide (c < 0) = false := decide_eq_false (by omega)
    have a4 : decide (1114111 < c) = false := decide_eq_false (by omega)
    have a2 : decide (55296 ≤ c) = false := decide_eq_false (by omega)
    have b1 : c < 128 := by omega
    go_enter Tryz.func164, Tryz.ntmps164
    go_wp2_with fail
    go_ret
    exact ⟨rfl, rfl⟩
  · rw [e]
    clear e
    have a1 : decide (c < 0) = false := decide_eq_false (by omega)
    have a4 : decide (1114111 < c) = false := decide_eq_false (by omega)
    have a2 : decide (55296 ≤ c) = false := decide_eq_false (by omega)
    have b1 : ¬ c < 128 := by omega
    have b2 : c < 2048 := by omega
    go_enter Tryz.func164, Tryz.ntmps164
    go_wp2_with fail
    go_ret
    exact ⟨rfl, rfl⟩
  · rw [e]
    clear e
    by_cases h : 55296 ≤ c
    · have a1 : decide (c < 0) = false := decide_eq_false (by omega)
      have a4 : decide (1114111 < c) = false := decide_eq_false (by omega)
      have a2 : decide (55296 ≤ c) = true := decide_eq_true (by omega)
      have a3 : decide (c ≤ 57343) = false := decide_eq_false (by omega)
      have b1 : ¬ c < 128 := by omega
      have b2 : ¬ c < 2048 := by omega
      have b3 : c < 65536 := by omega
      go_enter Tryz.func164, Tryz.ntmps164
      go_wp2_with fail
      go_ret
      exact ⟨rfl, rfl⟩
    · have a1 : decide (c < 0) = false := decide_eq_false (by omega)
      have a4 : decide (1114111 < c) = false := decide_eq_false (by omega)
      have a2 : decide (55296 ≤ c) = false := decide_eq_false (by omega)
      have b1 : ¬ c < 128 := by omega
      have b2 : ¬ c < 2048 := by omega
      have b3 : c < 65536 := by omega
      go_enter Tryz.func164, Tryz.ntmps164
      go_wp2_with fail
      go_ret
      exact ⟨rfl, rfl⟩
  · rw [e]
    clear e
    have a1 : decide (c < 0) = false := decide_eq_false (by omega)
    have a4 : decide (1114111 < c) = false := decide_eq_false (by omega)
    have a2 : decide (55296 ≤ c) = true := decide_eq_true (by omega)
    have a3 : decide (c ≤ 57343) = false := decide_eq_false (by omega)
    have b1 : ¬ c < 128 := by omega
    have b2 : ¬ c < 2048 := by omega
    have b3 : ¬ c < 65536 := by omega
    go_enter Tryz.func164, Tryz.ntmps164
    go_wp2_with fail
    go_ret
    exact ⟨rfl, rfl⟩
end Go.Proofs.YtjoonmpjcophnaaGreatDoor
