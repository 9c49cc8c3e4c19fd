/- Contracts of package sign's bitOf, Is, Abs, Neg, Copysign, where its variable holds both widths' signs. -/
import Derived.Test.YtahaocnlclkeaaaDoorRef
import Derived.LoopN
namespace Go.Proofs.YtahaocnlclkeaaaDoor
open Go.RowKit

/-- The variable holds both widths' signs. -/
def Mk (W : World) : Prop := W.cell? ⟨0, 0, none⟩ = some (.int .i64 32) ∧ W.cell? ⟨0, 1, none⟩ = some (.int .u64 2147483648) ∧ W.cell? ⟨0, 2, none⟩ = some (.int .i64 64) ∧ W.cell? ⟨0, 3, none⟩ = some (.int .u64 9223372036854775808)
theorem Mk.below {w w' : World} (h : Mk w) (hb : Below w.heap.size w w') : Mk w' :=
  have hz := lt_of_cell h.1
  ⟨keep1 hb hz h.1, keep1 hb hz h.2.1, keep1 hb hz h.2.2.1, keep1 hb hz h.2.2.2⟩

set_option maxHeartbeats 1000000 in
theorem bitOf_32 (W : World) (m : Mk W) :
    Calls Tryd.prog 15 #[.int .i64 32] W fun r W' => r = .returned (.int .u64 2147483648) ∧ Below W.heap.size W W' := by
  obtain ⟨c0, c1, c2, c3⟩ := m
  have i0 : ∀ w, (Instr.index 42 (.agg #[.int .i64 32, .int .u64 2147483648, .int .i64 64, .int .u64 9223372036854775808]) (.int .i64 0)).run Tryd.prog w = .ok (.agg #[.int .i64 32, .int .u64 2147483648]) w := fun _ => by kernel_rfl
  have i1 : ∀ w, (Instr.index 42 (.agg #[.int .i64 32, .int .u64 2147483648, .int .i64 64, .int .u64 9223372036854775808]) (.int .i64 1)).run Tryd.prog w = .ok (.agg #[.int .i64 64, .int .u64 9223372036854775808]) w := fun _ => by kernel_rfl
  go_enter Tryd.func15, Tryd.ntmps15
  go_wp2_with fail
  refine wp_loop_rounds 1 ?_
  rw [rounds_succ]
  go_wp2_with fail
  go_ret
  exact ⟨rfl, below1 _ _⟩
set_option maxHeartbeats 1000000 in
theorem bitOf_64 (W : World) (m : Mk W) :
    Calls Tryd.prog 15 #[.int .i64 64] W fun r W' => r = .returned (.int .u64 9223372036854775808) ∧ Below W.heap.size W W' := by
  obtain ⟨c0, c1, c2, c3⟩ := m
  have i0 : ∀ w, (Instr.index 42 (.agg #[.int .i64 32, .int .u64 2147483648, .int .i64 64, .int .u64 9223372036854775808]) (.int .i64 0)).run Tryd.prog w = .ok (.agg #[.int .i64 32, .int .u64 2147483648]) w := fun _ => by kernel_rfl
  have i1 : ∀ w, (Instr.index 42 (.agg #[.int .i64 32, .int .u64 2147483648, .int .i64 64, .int .u64 9223372036854775808]) (.int .i64 1)).run Tryd.prog w = .ok (.agg #[.int .i64 64, .int .u64 9223372036854775808]) w := fun _ => by kernel_rfl
  go_enter Tryd.func15, Tryd.ntmps15
  go_wp2_with fail
  refine wp_loop_rounds 2 ?_
  rw [rounds_succ]
  go_wp2_with fail
  rw [rounds_succ]
  go_wp2_with fail
  go_ret
  exact ⟨rfl, below2 _ _ _⟩
set_option maxHeartbeats 1000000 in
theorem bitOf_no (w : Int) (W : World) (m : Mk W) (h1 : w ≠ 32) (h2 : w ≠ 64) :
    Calls Tryd.prog 15 #[.int .i64 w] W fun r W' => r = .returned (.int .u64 0) ∧ Below W.heap.size W W' := by
  obtain ⟨c0, c1, c2, c3⟩ := m
  have e1 : (32 == w) = false := by simpa using fun h => h1 h.symm
  have e2 : (64 == w) = false := by simpa using fun h => h2 h.symm
  have i0 : ∀ w, (Instr.index 42 (.agg #[.int .i64 32, .int .u64 2147483648, .int .i64 64, .int .u64 9223372036854775808]) (.int .i64 0)).run Tryd.prog w = .ok (.agg #[.int .i64 32, .int .u64 2147483648]) w := fun _ => by kernel_rfl
  have i1 : ∀ w, (Instr.index 42 (.agg #[.int .i64 32, .int .u64 2147483648, .int .i64 64, .int .u64 9223372036854775808]) (.int .i64 1)).run Tryd.prog w = .ok (.agg #[.int .i64 64, .int .u64 9223372036854775808]) w := fun _ => by kernel_rfl
  go_enter Tryd.func15, Tryd.ntmps15
  go_wp2_with fail
  refine wp_loop_rounds 3 ?_
  rw [rounds_succ]
  go_wp2_with fail
  rw [rounds_succ]
  go_wp2_with fail
  rw [rounds_succ]
  go_wp2_with fail
  go_ret
  exact ⟨rfl, below2 _ _ _⟩
end Go.Proofs.YtahaocnlclkeaaaDoor
