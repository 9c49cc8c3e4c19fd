/- A walk of SignBack. -/
import Derived.Test.YtahaocnlclkeaaaDoorLawA
namespace Go.Proofs.YtahaocnlclkeaaaDoor
open Go.RowKit

set_option maxHeartbeats 4000000 in
set_option maxRecDepth 100000 in
theorem back_64 {x y n d a : Int} {u v : Bool} (W : World) (HM : Hid (Mk W)) (HW : Cm 6 #[] (.bool true)) (HG : Cm 9 #[.int .i64 64, .int .u64 x] (.int .u64 n)) (HC : Cm 10 #[.int .i64 64, .int .u64 x, .int .u64 y] (.int .u64 d)) (h1 : IntKind.u64.wrap x = x) (h2 : bits .xor .u64 n x = 9223372036854775808) (HG2 : Cm 9 #[.int .i64 64, .int .u64 n] (.int .u64 x)) (HI1 : Cm 11 #[.int .i64 64, .int .u64 d] (.bool u)) (HI2 : Cm 11 #[.int .i64 64, .int .u64 y] (.bool u)) (HA1 : Cm 8 #[.int .i64 64, .int .u64 d] (.int .u64 a)) (HA2 : Cm 8 #[.int .i64 64, .int .u64 x] (.int .u64 a)) (HI3 : Cm 11 #[.int .i64 64, .int .u64 n] (.bool (!v))) (HI4 : Cm 11 #[.int .i64 64, .int .u64 x] (.bool v)) :
    Calls Tryd.prog 4 #[.int .i64 64, .int .u64 x, .int .u64 y] W fun r W' => r = .returned (.bool true) ∧ Below W.heap.size W W' := by
  have HB := hide (Below.refl W.heap.size W)
  go_enter Tryd.func4, Tryd.ntmps4
  go_wp2_with fail
  refine (unhide HW _ (unhide HM)).mono ?_
  rintro _ w1 ⟨rfl, hb⟩
  have HB := hide (bthen (unhide HB) hb)
  have HM := hide ((unhide HM).below hb)
  clear hb
  go_wp2_with fail
  refine (unhide HG _ (unhide HM)).mono ?_
  rintro _ w2 ⟨rfl, hb⟩
  have HB := hide (bthen (unhide HB) hb)
  have HM := hide ((unhide HM).below hb)
  clear hb
  go_wp2_with fail
  refine (unhide HC _ (unhide HM)).mono ?_
  rintro _ w3 ⟨rfl, hb⟩
  have HB := hide (bthen (unhide HB) hb)
  have HM := hide ((unhide HM).below hb)
  clear hb
  go_wp2_with fail
  refine (unhide HG2 _ (unhide HM)).mono ?_
  rintro _ w4 ⟨rfl, hb⟩
  have HB := hide (bthen (unhide HB) hb)
  have HM := hide ((unhide HM).below hb)
  clear hb
  go_wp2_with fail
  refine (unhide HI1 _ (unhide HM)).mono ?_
  rintro _ w5 ⟨rfl, hb⟩
  have HB := hide (bthen (unhide HB) hb)
  have HM := hide ((unhide HM).below hb)
  clear hb
  go_wp2_with fail
  refine (unhide HI2 _ (unhide HM)).mono ?_
  rintro _ w6 ⟨rfl, hb⟩
  have HB := hide (bthen (unhide HB) hb)
  have HM := hide ((unhide HM).below hb)
  clear hb
  go_wp2_with fail
  refine (unhide HA1 _ (unhide HM)).mono ?_
  rintro _ w7 ⟨rfl, hb⟩
  have HB := hide (bthen (unhide HB) hb)
  have HM := hide ((unhide HM).below hb)
  clear hb
  go_wp2_with fail
  refine (unhide HA2 _ (unhide HM)).mono ?_
  rintro _ w8 ⟨rfl, hb⟩
  have HB := hide (bthen (unhide HB) hb)
  have HM := hide ((unhide HM).below hb)
  clear hb
  go_wp2_with fail
  refine (unhide HI3 _ (unhide HM)).mono ?_
  rintro _ w9 ⟨rfl, hb⟩
  have HB := hide (bthen (unhide HB) hb)
  have HM := hide ((unhide HM).below hb)
  clear hb
  go_wp2_with fail
  refine (unhide HI4 _ (unhide HM)).mono ?_
  rintro _ w10 ⟨rfl, hb⟩
  have HB := hide (bthen (unhide HB) hb)
  have HM := hide ((unhide HM).below hb)
  clear hb
  go_wp2_with fail
  go_ret
  exact ⟨by cases v <;> rfl, unhide HB⟩
end Go.Proofs.YtahaocnlclkeaaaDoor
