/- WLensB, NuD. -/
import Derived.Test.YtpbgpdmffejdgabGreatDoorS01
import Derived.Test.YtpbgpdmffejdgabGreatDoorS08
namespace Go.Proofs.YtpbgpdmffejdgabGreatDoor.W
open Go.RowKit

theorem bitLen_of {v k : Nat} (h : v < 2 ^ k) : Go.bitLen v ≤ k := by
  unfold Go.bitLen
  split
  · omega
  · rename_i h0
    have := (Nat.log2_lt h0).2 h
    omega
theorem bitLen_128 {v : Nat} (hv : W2 v) : Go.bitLen v ≤ 128 := bitLen_of hv
theorem i64_id {x : Int} (h1 : -9223372036854775808 ≤ x) (h2 : x < 9223372036854775808) : IntKind.i64.wrap x = x := by
  simp only [IntKind.wrap, IntKind.bits, IntKind.signed]
  simp
  omega

end Go.Proofs.YtpbgpdmffejdgabGreatDoor.W
namespace Go.Proofs.YtpbgpdmffejdgabGreatDoor
open Go.RowKit

set_option maxHeartbeats 4000000 in
set_option maxRecDepth 100000 in
theorem chg_o {k f to a r : Int} (HQ : 
    (k = 11 ∧ Cm 55 #[.int .i64 to, .int .i64 f, .int .u64 a] (.int .u64 r)) ∨
    (k = 13 ∧ Cm 55 #[.int .i64 to, .int .i64 f, .int .u64 a] (.int .u64 r)) ∨
    (k = 16 ∧ Cm 55 #[.int .i64 to, .int .i64 f, .int .u64 a] (.int .u64 r)) ∨
    (k = 18 ∧ Cm 55 #[.int .i64 to, .int .i64 f, .int .u64 a] (.int .u64 r)) ∨
    (k = 12 ∧ Cm 56 #[.int .i64 to, .int .i64 f, .int .u64 a] (.int .u64 r)) ∨
    (k = 14 ∧ Cm 56 #[.int .i64 to, .int .i64 f, .int .u64 a] (.int .u64 r)) ∨
    (k = 17 ∧ Cm 56 #[.int .i64 to, .int .i64 f, .int .u64 a] (.int .u64 r)) ∨
    (k = 19 ∧ Cm 56 #[.int .i64 to, .int .i64 f, .int .u64 a] (.int .u64 r)) ∨
    (k = 15 ∧ Cm 57 #[.int .u64 a] (.int .u64 r)) ∨
    (k = 20 ∧ Cm 58 #[.int .u64 a] (.int .u64 r)) ∨
    (k = 5 ∧ Cm 59 #[.int .i64 to, .int .i64 f, .int .u64 a, .bool true] (.int .u64 r)) ∨
    (k = 0 ∧ Cm 11 #[.int .i64 to, .int .u64 a] (.int .u64 r)) ∨
    (k = 6 ∧ Cm 11 #[.int .i64 to, .int .u64 a] (.int .u64 r)) ∨
    (k = 21 ∧ Cm 11 #[.int .i64 to, .int .u64 a] (.int .u64 r)) ∨
    (k = 22 ∧ Cm 11 #[.int .i64 to, .int .u64 a] (.int .u64 r)) ∨
    (k = 23 ∧ Cm 11 #[.int .i64 to, .int .u64 a] (.int .u64 r)) ∨
    (k = 24 ∧ Cm 11 #[.int .i64 to, .int .u64 a] (.int .u64 r))) :
    Cm 17 #[.int .i64 k, .int .i64 f, .int .i64 to, .int .u64 a] (.tuple #[.int .u64 r, .int .i64 0]) := by
  refine hide (fun W m => ?_)
  have HM := hide m
  clear m
  rcases HQ with ⟨rfl, HC⟩ | ⟨rfl, HC⟩ | ⟨rfl, HC⟩ | ⟨rfl, HC⟩ | ⟨rfl, HC⟩ | ⟨rfl, HC⟩ | ⟨rfl, HC⟩ | ⟨rfl, HC⟩ | ⟨rfl, HC⟩ | ⟨rfl, HC⟩ | ⟨rfl, HC⟩ | ⟨rfl, HC⟩ | ⟨rfl, HC⟩ | ⟨rfl, HC⟩ | ⟨rfl, HC⟩ | ⟨rfl, HC⟩ | ⟨rfl, HC⟩
  all_goals
    have HB := hide (Below.refl W.heap.size W)
    go_enter Tryz.func17, Tryz.ntmps17
    go_wp2_with fail
    refine (unhide HC _ (unhide HM)).mono ?_
    rintro _ w1 ⟨rfl, hb⟩
    have HB := hide (bthen (unhide HB) hb)
    clear hb
    go_wp2_with fail
    go_ret2
    exact ⟨rfl, unhide HB⟩
end Go.Proofs.YtpbgpdmffejdgabGreatDoor
