/- WCmp. -/
import Derived.Test.YtmbkpmcmhmldgaaDoorB08
namespace Go.Proofs.YtmbkpmcmhmldgaaDoor.W
open Go.RowKit

set_option maxHeartbeats 400000 in
theorem isNaN_any (n : Int) (w : World) :
    Calls Tryd.prog 45 #[.int .u64 n] w fun e w' => e = .returned (.bool false) ∧ w' = w := by
  go_enter Tryd.func45, Tryd.ntmps45
  go_wp2
  go_ret
  exact ⟨by simp, rfl⟩

set_option maxHeartbeats 400000 in
theorem compare_any (a b : Int) (w : World) :
    Calls Tryd.prog 41 #[.int .u64 a, .int .u64 b] w fun e w' => e = .returned (.int .i64 (cmp1 a b)) ∧ w' = w := by
  unfold cmp1
  go_enter Tryd.func41, Tryd.ntmps41
  go_wp2_with (go_at_call 45; refine (isNaN_any _ _).mono ?_; rintro e w' ⟨rfl, rfl⟩)
  all_goals (go_ret; exact ⟨by simp [*], rfl⟩)

set_option maxHeartbeats 400000 in
theorem cmp_any (ah al bh bl : Int) (w : World) :
    Calls Tryd.prog 20 #[.agg #[.int .u64 ah, .int .u64 al], .agg #[.int .u64 bh, .int .u64 bl]] w fun e w' => e = .returned (.int .i64 (cmp2 ah al bh bl)) ∧ Below w.heap.size w w' := by
  by_cases hz : cmp1 ah bh = 0
  · have hb : (cmp1 ah bh != 0) = false := by simp [hz]
    have HC : Hid (cmp1 al bl = cmp2 ah al bh bl) := cmp2_zero al bl hz
    clear hz
    go_enter Tryd.func20, Tryd.ntmps20
    go_wp2_with (go_at_call 41; refine (compare_any _ _ _).mono ?_; rintro e w' ⟨rfl, rfl⟩)
    go_ret
    exact ⟨ret1 HC.out, below2 _ _ _⟩
  · have hb : (cmp1 ah bh != 0) = true := by simp [hz]
    have HC : Hid (cmp1 ah bh = cmp2 ah al bh bl) := cmp2_not al bl hz
    clear hz
    go_enter Tryd.func20, Tryd.ntmps20
    go_wp2_with (go_at_call 41; refine (compare_any _ _ _).mono ?_; rintro e w' ⟨rfl, rfl⟩)
    go_ret
    exact ⟨ret1 HC.out, below2 _ _ _⟩

theorem cmp_n (v u : Nat) (w : World) :
    Calls Tryd.prog 20 #[.agg #[.int .u64 (hi v), .int .u64 (lo v)], .agg #[.int .u64 (hi u), .int .u64 (lo u)]] w fun e w' => e = .returned (.int .i64 (cmpN v u)) ∧ Below w.heap.size w w' := by
  have h := cmp_any (hi v) (lo v) (hi u) (lo u) w
  rw [cmp_2]
  exact h

end Go.Proofs.YtmbkpmcmhmldgaaDoor.W
