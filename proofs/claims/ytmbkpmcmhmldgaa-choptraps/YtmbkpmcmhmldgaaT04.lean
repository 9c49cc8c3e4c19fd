/- WLeafB. -/
import Derived.Test.YtmbkpmcmhmldgaaT02
import Derived.Lib.BitFns
namespace Go.Proofs.Ytmbkpmcmhmldgaa.W
open Go.RowKit

theorem ret1 {k : IntKind} {a c : Int} (h1 : a = c) : Ending.returned (.int k a) = .returned (.int k c) := by rw [h1]
/-- Which of two numbers of two words is the lesser: -1, 0, 1. -/
def cmp2 (ah al bh bl : Int) : Int := if ah < bh then -1 else if bh < ah then 1 else cmp1 al bl

theorem cmp2_zero {ah bh : Int} (al bl : Int) (hz : cmp1 ah bh = 0) : cmp1 al bl = cmp2 ah al bh bl := by
  unfold cmp1 at hz
  unfold cmp2
  by_cases h1 : ah < bh
  · rw [if_pos h1] at hz; omega
  · rw [if_neg h1] at hz ⊢
    by_cases h2 : bh < ah
    · rw [if_pos h2] at hz; omega
    · rw [if_neg h2]
theorem cmp2_not {ah bh : Int} (al bl : Int) (hz : ¬ cmp1 ah bh = 0) : cmp1 ah bh = cmp2 ah al bh bl := by
  unfold cmp1 at hz ⊢
  unfold cmp2
  by_cases h1 : ah < bh
  · rw [if_pos h1, if_pos h1]
  · rw [if_neg h1] at hz ⊢
    rw [if_neg h1]
    by_cases h2 : bh < ah
    · rw [if_pos h2, if_pos h2]
    · rw [if_neg h2] at hz; omega
theorem below2 (w : World) (o1 o2 : Obj) : Below w.heap.size w ((w.alloc o1).alloc o2) := ((Below.refl _ _).alloc (Nat.le_refl _) _).alloc (by simp) _
theorem below1 (w : World) (o1 : Obj) : Below w.heap.size w (w.alloc o1) := (Below.refl _ _).alloc (Nat.le_refl _) _

set_option maxHeartbeats 400000 in
theorem cmp_any (ah al bh bl : Int) (w : World) :
    Calls Try.prog 28 #[.agg #[.int .u64 ah, .int .u64 al], .agg #[.int .u64 bh, .int .u64 bl]] w fun e w' => e = .returned (.int .i64 (cmp2 ah al bh bl)) ∧ Below w.heap.size w w' := by
  by_cases hz : cmp1 ah bh = 0
  · have hb : (cmp1 ah bh != 0) = false := by simp [hz]
    have HC : Hid (cmp1 al bl = cmp2 ah al bh bl) := cmp2_zero al bl hz
    clear hz
    go_enter Try.func28, Try.ntmps28
    go_wp2_with (go_at_call 51; refine (compare_any _ _ _).mono ?_; rintro e w' ⟨rfl, rfl⟩)
    go_ret
    exact ⟨ret1 HC.out, below2 _ _ _⟩
  · have hb : (cmp1 ah bh != 0) = true := by simp [hz]
    have HC : Hid (cmp1 ah bh = cmp2 ah al bh bl) := cmp2_not al bl hz
    clear hz
    go_enter Try.func28, Try.ntmps28
    go_wp2_with (go_at_call 51; refine (compare_any _ _ _).mono ?_; rintro e w' ⟨rfl, rfl⟩)
    go_ret
    exact ⟨ret1 HC.out, below2 _ _ _⟩

end Go.Proofs.Ytmbkpmcmhmldgaa.W
