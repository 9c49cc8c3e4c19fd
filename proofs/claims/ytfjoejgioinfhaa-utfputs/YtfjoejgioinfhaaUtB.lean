/- The walks of size and first. -/
import Derived.Test.YtfjoejgioinfhaaUtA
namespace Go.Proofs.Ytfjoejgioinfhaa
open Go.RowKit

set_option maxHeartbeats 1000000 in
set_option maxRecDepth 100000 in
theorem size_at (c : Int) : Hid (∀ W, Calls Try.prog 16 #[.int .i32 c] W fun r W' => r = .returned (.int .i64 (sz c : Int)) ∧ W' = W) := by
  refine hide (fun W => ?_)
  rcases sz_ways c with ⟨e, h⟩ | ⟨e, h1, h2⟩ | ⟨e, h1, h2⟩ | ⟨e, h1, h2, h3⟩ | ⟨e, h1, h2⟩
  · rw [e]
    clear e
    rcases h with h | h | h
    · go_enter Try.func16, Try.ntmps16
      go_wp2_with fail
      go_ret
      exact ⟨rfl, rfl⟩
    · have a1 : decide (c < 0) = false := decide_eq_false (by omega)
      have a2 : decide (55296 ≤ c) = true := decide_eq_true h.1
      have a3 : decide (c ≤ 57343) = true := decide_eq_true h.2
      clear h
      go_enter Try.func16, Try.ntmps16
      go_wp2_with fail
      go_ret
      exact ⟨rfl, rfl⟩
    · have a1 : decide (c < 0) = false := decide_eq_false (by omega)
      have a2 : decide (55296 ≤ c) = true := decide_eq_true (by omega)
      have a3 : decide (c ≤ 57343) = false := decide_eq_false (by omega)
      go_enter Try.func16, Try.ntmps16
      go_wp2_with fail
      go_ret
      exact ⟨rfl, rfl⟩
  · rw [e]
    clear e
    have a1 : decide (c < 0) = false := decide_eq_false (by omega)
    have a4 : decide (1114111 < c) = false := decide_eq_false (by omega)
    have a2 : decide (55296 ≤ c) = false := decide_eq_false (by omega)
    have b1 : c < 128 := by omega
    go_enter Try.func16, Try.ntmps16
    go_wp2_with fail
    go_ret
    exact ⟨rfl, rfl⟩
  · rw [e]
    clear e
    have a1 : decide (c < 0) = false := decide_eq_false (by omega)
    have a4 : decide (1114111 < c) = false := decide_eq_false (by omega)
    have a2 : decide (55296 ≤ c) = false := decide_eq_false (by omega)
    have b1 : ¬ c < 128 := by omega
    have b2 : c < 2048 := by omega
    go_enter Try.func16, Try.ntmps16
    go_wp2_with fail
    go_ret
    exact ⟨rfl, rfl⟩
  · rw [e]
    clear e
    by_cases h : 55296 ≤ c
    · have a1 : decide (c < 0) = false := decide_eq_false (by omega)
      have a4 : decide (1114111 < c) = false := decide_eq_false (by omega)
      have a2 : decide (55296 ≤ c) = true := decide_eq_true (by omega)
      have a3 : decide (c ≤ 57343) = false := decide_eq_false (by omega)
      have b1 : ¬ c < 128 := by omega
      have b2 : ¬ c < 2048 := by omega
      have b3 : c < 65536 := by omega
      go_enter Try.func16, Try.ntmps16
      go_wp2_with fail
      go_ret
      exact ⟨rfl, rfl⟩
    · have a1 : decide (c < 0) = false := decide_eq_false (by omega)
      have a4 : decide (1114111 < c) = false := decide_eq_false (by omega)
      have a2 : decide (55296 ≤ c) = false := decide_eq_false (by omega)
      have b1 : ¬ c < 128 := by omega
      have b2 : ¬ c < 2048 := by omega
      have b3 : c < 65536 := by omega
      go_enter Try.func16, Try.ntmps16
      go_wp2_with fail
      go_ret
      exact ⟨rfl, rfl⟩
  · rw [e]
    clear e
    have a1 : decide (c < 0) = false := decide_eq_false (by omega)
    have a4 : decide (1114111 < c) = false := decide_eq_false (by omega)
    have a2 : decide (55296 ≤ c) = true := decide_eq_true (by omega)
    have a3 : decide (c ≤ 57343) = false := decide_eq_false (by omega)
    have b1 : ¬ c < 128 := by omega
    have b2 : ¬ c < 2048 := by omega
    have b3 : ¬ c < 65536 := by omega
    go_enter Try.func16, Try.ntmps16
    go_wp2_with fail
    go_ret
    exact ⟨rfl, rfl⟩
theorem size_any (c : Int) : Ct 16 #[.int .i32 c] (.int .i64 (sz c : Int)) := hide fun W => (unhide (size_at c) W).mono fun _ _ h => ⟨h.1, by rw [h.2]; exact Below.refl _ _⟩
set_option maxHeartbeats 1000000 in
set_option maxRecDepth 100000 in
theorem first_none (W : World) : Calls Try.prog 15 #[.string ByteArray.empty] W fun r W' => r = .returned (.tuple #[.int .i32 0, .int .i64 0]) ∧ Below W.heap.size W W' := by
  have hn : ¬ 0 < ByteArray.empty.size := by decide
  go_enter Try.func15, Try.ntmps15
  go_wp2_with fail
  refine wp_loop_rounds 1 ?_
  rw [rounds_succ]
  have hnx : ∀ ty, (Instr.next (.pointer (some ⟨W.heap.size, 0, none⟩)) true ty).run Try.prog (W.iter ByteArray.empty 0) = _ := fun ty => run_next_end W ByteArray.empty 0 ty hn
  go_wp2_with fail
  go_ret2
  exact ⟨rfl, below1 _ _⟩
set_option maxHeartbeats 1000000 in
set_option maxRecDepth 100000 in
theorem first_some {s : ByteArray} {c k n : Nat} (hc : Utf8.decode s 0 = (c, k)) (hs : s.size = n) (h0 : 0 < k) (h1 : k ≤ n) (hl : n ≤ 4) (W : World) :
    Calls Try.prog 15 #[.string s] W fun r W' => r = .returned (.tuple #[.int .i32 (c : Int), .int .i64 (k : Int)]) ∧ Below W.heap.size W W' := by
  have hnx : ∀ ty, (Instr.next (.pointer (some ⟨W.heap.size, 0, none⟩)) true ty).run Try.prog (W.iter s 0) = .ok (.tuple #[.bool true, .int .i64 0, .int .i32 (c : Int)]) (W.iter s k) := fun ty => by
    rw [run_next_any W s 0 ty (by omega), hc]
    simp
  by_cases hk : k < n
  · have hny : ∀ ty, ∃ x w', (Instr.next (.pointer (some ⟨W.heap.size, 0, none⟩)) true ty).run Try.prog (W.iter s k) = .ok (.tuple #[.bool true, .int .i64 (k : Int), .int .i32 x]) (W.iter s w') := fun ty =>
      ⟨_, _, run_next_any W s k ty (by omega)⟩
    obtain ⟨x, p, hny⟩ := hny 0
    clear hc
    have hkz : 0 < (k : Int) := by omega
    go_enter Try.func15, Try.ntmps15
    go_wp2_with fail
    refine wp_loop_rounds 2 ?_
    rw [rounds_succ]
    go_wp2_with fail
    rw [rounds_succ]
    go_wp2_with fail
    go_ret2
    exact ⟨rfl, below1 _ _⟩
  · have hny : ∀ ty, (Instr.next (.pointer (some ⟨W.heap.size, 0, none⟩)) true ty).run Try.prog (W.iter s k) = .ok (.tuple #[.bool false]) (W.iter s k) := fun ty => run_next_end W s k ty (by omega)
    obtain rfl : k = n := by omega
    clear hc
    go_enter Try.func15, Try.ntmps15
    go_wp2_with fail
    refine wp_loop_rounds 2 ?_
    rw [rounds_succ]
    go_wp2_with fail
    rw [rounds_succ]
    go_wp2_with fail
    go_ret2
    exact ⟨rfl, below1 _ _⟩
end Go.Proofs.Ytfjoejgioinfhaa
