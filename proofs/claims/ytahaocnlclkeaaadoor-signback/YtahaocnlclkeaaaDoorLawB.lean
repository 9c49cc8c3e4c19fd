/- Walks of SignBack. -/
import Derived.Test.YtahaocnlclkeaaaDoorLawA
namespace Go.Proofs.YtahaocnlclkeaaaDoor
open Go.RowKit

set_option maxHeartbeats 4000000 in
set_option maxRecDepth 100000 in
theorem back_no {w x y : Int} (W : World) (HM : Hid (Mk W)) (HW : Cm 6 #[] (.bool true)) (g1 : (w != 32) = true) (g2 : (w != 64) = true) :
    Calls Tryd.prog 4 #[.int .i64 w, .int .u64 x, .int .u64 y] W fun r W' => r = .returned (.bool true) ∧ Below W.heap.size W W' := by
  have HB := hide (Below.refl W.heap.size W)
  go_enter Tryd.func4, Tryd.ntmps4
  go_wp2_with fail
  refine (unhide HW _ (unhide HM)).mono ?_
  rintro _ w1 ⟨rfl, hb⟩
  have HB := hide (bthen (unhide HB) hb)
  have HM := hide ((unhide HM).below hb)
  clear hb
  go_wp2_with fail
  go_ret
  exact ⟨rfl, unhide HB⟩
end Go.Proofs.YtahaocnlclkeaaaDoor
