/- The walk of IntsSums. -/
import Derived.Test.YtjlegmgpgfjciaaTk
namespace Go.Proofs.Ytjlegmgpgfjciaa
open Go.RowKit

set_option maxHeartbeats 4000000 in
set_option maxRecDepth 100000 in
theorem sums_k {w a b x y z : Int} (HA0 : Ct 8 #[] (.bool true)) (H1 : Ct 9 #[.int .i64 w, .int .u64 a, .int .u64 b] (.int .u64 x)) (H2 : Ct 10 #[.int .i64 w, .int .u64 a, .int .u64 b] (.int .u64 y)) (H3 : Ct 11 #[.int .i64 w, .int .u64 a, .int .u64 b] (.int .u64 z)) (HK : Ct 12 #[.int .i64 w] (.bool true)) (R1 : Ct 13 #[.int .i64 w, .int .u64 a, .int .u64 b] (.int .u64 x)) (R2 : Ct 14 #[.int .i64 w, .int .u64 a, .int .u64 b] (.int .u64 y)) (R3 : Ct 15 #[.int .i64 w, .int .u64 a, .int .u64 b] (.int .u64 z)) : Ct 3 #[.int .i64 w, .int .u64 a, .int .u64 b] (.bool true) := by
  refine hide (fun W => ?_)
  have HB := hide (Below.refl W.heap.size W)
  go_enter Try.func3, Try.ntmps3
  go_wp2_with fail
  refine (unhide HA0 _).mono ?_
  rintro _ w1 ⟨rfl, hb⟩
  have HB := hide (bthen (unhide HB) hb)
  clear hb
  go_wp2_with fail
  refine (unhide H1 _).mono ?_
  rintro _ w2 ⟨rfl, hb⟩
  have HB := hide (bthen (unhide HB) hb)
  clear hb
  go_wp2_with fail
  refine (unhide H2 _).mono ?_
  rintro _ w3 ⟨rfl, hb⟩
  have HB := hide (bthen (unhide HB) hb)
  clear hb
  go_wp2_with fail
  refine (unhide H3 _).mono ?_
  rintro _ w4 ⟨rfl, hb⟩
  have HB := hide (bthen (unhide HB) hb)
  clear hb
  go_wp2_with fail
  refine (unhide HK _).mono ?_
  rintro _ w5 ⟨rfl, hb⟩
  have HB := hide (bthen (unhide HB) hb)
  clear hb
  go_wp2_with fail
  refine (unhide R1 _).mono ?_
  rintro _ w6 ⟨rfl, hb⟩
  have HB := hide (bthen (unhide HB) hb)
  clear hb
  go_wp2_with fail
  refine (unhide R2 _).mono ?_
  rintro _ w7 ⟨rfl, hb⟩
  have HB := hide (bthen (unhide HB) hb)
  clear hb
  go_wp2_with fail
  refine (unhide R3 _).mono ?_
  rintro _ w8 ⟨rfl, hb⟩
  have HB := hide (bthen (unhide HB) hb)
  clear hb
  go_wp2_with fail
  go_ret
  exact ⟨by simp, unhide HB⟩
set_option maxHeartbeats 4000000 in
set_option maxRecDepth 100000 in
theorem sums_n {w a b : Int} (HA0 : Ct 8 #[] (.bool true)) (H1 : Ct 9 #[.int .i64 w, .int .u64 a, .int .u64 b] (.int .u64 0)) (H2 : Ct 10 #[.int .i64 w, .int .u64 a, .int .u64 b] (.int .u64 0)) (H3 : Ct 11 #[.int .i64 w, .int .u64 a, .int .u64 b] (.int .u64 0)) (HK : Ct 12 #[.int .i64 w] (.bool false)) : Ct 3 #[.int .i64 w, .int .u64 a, .int .u64 b] (.bool true) := by
  refine hide (fun W => ?_)
  have HB := hide (Below.refl W.heap.size W)
  go_enter Try.func3, Try.ntmps3
  go_wp2_with fail
  refine (unhide HA0 _).mono ?_
  rintro _ w1 ⟨rfl, hb⟩
  have HB := hide (bthen (unhide HB) hb)
  clear hb
  go_wp2_with fail
  refine (unhide H1 _).mono ?_
  rintro _ w2 ⟨rfl, hb⟩
  have HB := hide (bthen (unhide HB) hb)
  clear hb
  go_wp2_with fail
  refine (unhide H2 _).mono ?_
  rintro _ w3 ⟨rfl, hb⟩
  have HB := hide (bthen (unhide HB) hb)
  clear hb
  go_wp2_with fail
  refine (unhide H3 _).mono ?_
  rintro _ w4 ⟨rfl, hb⟩
  have HB := hide (bthen (unhide HB) hb)
  clear hb
  go_wp2_with fail
  refine (unhide HK _).mono ?_
  rintro _ w5 ⟨rfl, hb⟩
  have HB := hide (bthen (unhide HB) hb)
  clear hb
  go_wp2_with fail
  go_ret
  exact ⟨by first | rfl | simp, unhide HB⟩
end Go.Proofs.Ytjlegmgpgfjciaa
