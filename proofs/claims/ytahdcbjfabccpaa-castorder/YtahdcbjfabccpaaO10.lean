/- CsW. -/
import Derived.Test.YtahdcbjfabccpaaO08
namespace Go.Proofs.Ytahdcbjfabccpaa
open Go.RowKit

set_option maxHeartbeats 4000000 in
set_option maxRecDepth 100000 in
theorem awake_l (W : World) (H1 : Ct 11 #[.int .i64 32, .int .i64 32, .int .u64 4294967295] (.int .u64 3212836864)) (H2 : Ct 9 #[.int .u64 9218868437227405311] (.int .u64 2139095040)) (H3 : Ct 10 #[.int .i64 64, .int .i64 32, .int .u64 1] (.int .u64 4607182418800017408)) :
    Calls Try.prog 5 #[] W fun r W' => r = .returned (.bool true) ∧ Below W.heap.size W W' := by
  have HB := hide (Below.refl W.heap.size W)
  go_enter Try.func5, Try.ntmps5
  go_wp2_with fail
  refine (unhide H1 _).mono ?_
  rintro _ w1 ⟨rfl, hb⟩
  have HB := hide (bthen (unhide HB) hb)
  clear hb
  go_wp2_with fail
  refine (unhide H2 _).mono ?_
  rintro _ w2 ⟨rfl, hb⟩
  have HB := hide (bthen (unhide HB) hb)
  clear hb
  go_wp2_with fail
  refine (unhide H3 _).mono ?_
  rintro _ w3 ⟨rfl, hb⟩
  have HB := hide (bthen (unhide HB) hb)
  clear hb
  go_wp2_with fail
  go_ret
  exact ⟨rfl, unhide HB⟩
end Go.Proofs.Ytahdcbjfabccpaa
