/- ImD. -/
import Derived.Test.YtjoonmpjcophnaaGreatDoorUa06
namespace Go.Proofs.YtjoonmpjcophnaaGreatDoor
open Go.RowKit

set_option maxHeartbeats 4000000 in
set_option maxRecDepth 100000 in
theorem imm_n (op v : Int) (z : Bool) (k0 : (op == 0) = false) (k1 : (op == 1) = false) (k2 : (op == 2) = false) (k3 : (op == 3) = false) (k4 : (op == 4) = false) (k5 : (op == 5) = false) (k11 : (op == 11) = false) (k12 : (op == 12) = false) (k13 : (op == 13) = false) (k14 : (op == 14) = false) (k15 : (op == 15) = false) (k16 : (op == 16) = false) (k17 : (op == 17) = false) (k26 : (op == 26) = false) (k27 : (op == 27) = false) (k32 : (op == 32) = false) (k33 : (op == 33) = false) (k34 : (op == 34) = false) (k35 : (op == 35) = false) (k36 : (op == 36) = false) (k63 : (op == 63) = false) (k64 : (op == 64) = false) (HK : Cm 184 #[.int .i64 op] (.tuple #[.int .i64 v, .bool z])) : Cm 172 #[.int .i64 op] (.tuple #[.int .i64 v, .bool z]) := hide fun W m => by
  have HM := hide m
  clear m
  go_enter Tryz.func172, Tryz.ntmps172
  go_wp2_with fail
  refine ((unhide HK) _ (unhide HM)).mono ?_
  rintro _ w3 ⟨rfl, hb3⟩
  go_wp2_with fail
  go_ret2
  exact ⟨rfl, hb3⟩

end Go.Proofs.YtjoonmpjcophnaaGreatDoor
