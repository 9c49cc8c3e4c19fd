/- NuC. -/
import Derived.Test.YtpbgpdmffejdgabGreatDoorS01
namespace Go.Proofs.YtpbgpdmffejdgabGreatDoor
open Go.RowKit

set_option maxHeartbeats 4000000 in
set_option maxRecDepth 100000 in
theorem makef_w {k w a b r : Int} (HQ : 
    (k = 0 ∧ Cm 40 #[.int .i64 w, .int .u64 a] (.int .u64 r)) ∨
    (k = 1 ∧ Cm 41 #[.int .i64 w, .int .u64 a] (.int .u64 r)) ∨
    (k = 2 ∧ Cm 42 #[.int .i64 w, .int .u64 a] (.int .u64 r)) ∨
    (k = 3 ∧ Cm 43 #[.int .i64 w, .int .u64 a] (.int .u64 r)) ∨
    (k = 4 ∧ Cm 44 #[.int .i64 w, .int .u64 a] (.int .u64 r)) ∨
    (k = 5 ∧ Cm 45 #[.int .i64 w, .int .u64 a] (.int .u64 r)) ∨
    (k = 6 ∧ Cm 46 #[.int .i64 w, .int .u64 a] (.int .u64 r)) ∨
    (k = 7 ∧ Cm 47 #[.int .i64 w, .int .u64 a, .int .u64 b] (.int .u64 r)) ∨
    (k = 8 ∧ Cm 48 #[.int .i64 w, .int .u64 a, .int .u64 b] (.int .u64 r)) ∨
    (k = 9 ∧ Cm 49 #[.int .i64 w, .int .u64 a, .int .u64 b] (.int .u64 r)) ∨
    (k = 10 ∧ Cm 50 #[.int .i64 w, .int .u64 a, .int .u64 b] (.int .u64 r)) ∨
    (k = 11 ∧ Cm 51 #[.int .i64 w, .int .u64 a, .int .u64 b] (.int .u64 r)) ∨
    (k = 12 ∧ Cm 52 #[.int .i64 w, .int .u64 a, .int .u64 b] (.int .u64 r)) ∨
    (k = 13 ∧ Cm 53 #[.int .i64 w, .int .u64 a, .int .u64 b] (.int .u64 r))) :
    Cm 16 #[.int .i64 k, .int .i64 w, .int .u64 a, .int .u64 b] (.int .u64 r) := by
  refine hide (fun W m => ?_)
  have HM := hide m
  clear m
  rcases HQ with ⟨rfl, HC⟩ | ⟨rfl, HC⟩ | ⟨rfl, HC⟩ | ⟨rfl, HC⟩ | ⟨rfl, HC⟩ | ⟨rfl, HC⟩ | ⟨rfl, HC⟩ | ⟨rfl, HC⟩ | ⟨rfl, HC⟩ | ⟨rfl, HC⟩ | ⟨rfl, HC⟩ | ⟨rfl, HC⟩ | ⟨rfl, HC⟩ | ⟨rfl, HC⟩
  all_goals
    have HB := hide (Below.refl W.heap.size W)
    go_enter Tryz.func16, Tryz.ntmps16
    go_wp2_with fail
    refine (unhide HC _ (unhide HM)).mono ?_
    rintro _ w1 ⟨rfl, hb⟩
    have HB := hide (bthen (unhide HB) hb)
    clear hb
    go_wp2_with fail
    go_ret
    exact ⟨rfl, unhide HB⟩
end Go.Proofs.YtpbgpdmffejdgabGreatDoor
