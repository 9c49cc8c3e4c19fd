/- The walk of IntsRuns. -/
import Derived.Test.YtjlegmgpgfjciabDoorCsT
namespace Go.Proofs.YtjlegmgpgfjciabDoor
open Go.RowKit

set_option maxHeartbeats 4000000 in
set_option maxRecDepth 100000 in
theorem runs_no {w a : Int} (HA0 : Ct 4 #[] (.bool true)) (g1 : (w != 32) = true) (g2 : (w != 64) = true) : Cm 3 #[.int .i64 w, .int .u64 a] (.bool true) := by
  refine hide (fun W hM => ?_)
  have HM := hide hM
  clear hM
  have HB := hide (Below.refl W.heap.size W)
  go_enter Tryd.func3, Tryd.ntmps3
  go_wp2_with fail
  refine (unhide HA0 _).mono ?_
  rintro _ w1 ⟨rfl, hb⟩
  have HB := hide (bthen (unhide HB) hb)
  have HM := hide ((unhide HM).below hb)
  clear hb
  go_wp2_with fail
  go_ret
  exact ⟨rfl, unhide HB⟩
set_option maxHeartbeats 4000000 in
set_option maxRecDepth 100000 in
theorem runs_32z {a : Int} (HA0 : Ct 4 #[] (.bool true)) (HU : Ct 5 #[.int .i64 32, .int .u64 a] (.int .u64 32)) (HD : Cm 6 #[.int .i64 32, .int .u64 a] (.int .u64 32)) (HP : Ct 7 #[.int .i64 32, .int .u64 a] (.int .u64 0)) : Cm 3 #[.int .i64 32, .int .u64 a] (.bool true) := by
  refine hide (fun W hM => ?_)
  have HM := hide hM
  clear hM
  have HB := hide (Below.refl W.heap.size W)
  go_enter Tryd.func3, Tryd.ntmps3
  go_wp2_with fail
  refine (unhide HA0 _).mono ?_
  rintro _ w1 ⟨rfl, hb⟩
  have HB := hide (bthen (unhide HB) hb)
  have HM := hide ((unhide HM).below hb)
  clear hb
  go_wp2_with fail
  refine (unhide HU _).mono ?_
  rintro _ w2 ⟨rfl, hb⟩
  have HB := hide (bthen (unhide HB) hb)
  have HM := hide ((unhide HM).below hb)
  clear hb
  go_wp2_with fail
  refine (unhide HD _ (unhide HM)).mono ?_
  rintro _ w3 ⟨rfl, hb⟩
  have HB := hide (bthen (unhide HB) hb)
  have HM := hide ((unhide HM).below hb)
  clear hb
  go_wp2_with fail
  refine (unhide HP _).mono ?_
  rintro _ w4 ⟨rfl, hb⟩
  have HB := hide (bthen (unhide HB) hb)
  have HM := hide ((unhide HM).below hb)
  clear hb
  go_wp2_with fail
  go_ret
  exact ⟨by first | rfl | simp, unhide HB⟩
set_option maxHeartbeats 4000000 in
set_option maxRecDepth 100000 in
theorem runs_32n {a u d p x1 y c e : Int} (HA0 : Ct 4 #[] (.bool true)) (HU : Ct 5 #[.int .i64 32, .int .u64 a] (.int .u64 u)) (HD : Cm 6 #[.int .i64 32, .int .u64 a] (.int .u64 d)) (HP : Ct 7 #[.int .i64 32, .int .u64 a] (.int .u64 p)) (gp : (p == 0) = false) (H1 : Ct 8 #[.int .i64 32, .int .u64 a, .int .u64 u] (.int .u64 x1)) (h1 : x1 / 2147483648 = 1) (H2 : Ct 9 #[.int .i64 32, .int .u64 a, .int .u64 d] (.int .u64 y)) (h2 : bits .and .u64 y 1 = 1) (H3 : Ct 9 #[.int .i64 32, .int .u64 x1, .int .u64 u] (.int .u64 c)) (H4 : Ct 10 #[.int .i64 32, .int .u64 a, .int .u64 0] (.int .u64 c)) (he : IntKind.u64.wrap (u + d) = e) (h5 : e < 32) : Cm 3 #[.int .i64 32, .int .u64 a] (.bool true) := by
  refine hide (fun W hM => ?_)
  have HM := hide hM
  clear hM
  have HB := hide (Below.refl W.heap.size W)
  go_enter Tryd.func3, Tryd.ntmps3
  go_wp2_with fail
  refine (unhide HA0 _).mono ?_
  rintro _ w1 ⟨rfl, hb⟩
  have HB := hide (bthen (unhide HB) hb)
  have HM := hide ((unhide HM).below hb)
  clear hb
  go_wp2_with fail
  refine (unhide HU _).mono ?_
  rintro _ w2 ⟨rfl, hb⟩
  have HB := hide (bthen (unhide HB) hb)
  have HM := hide ((unhide HM).below hb)
  clear hb
  go_wp2_with fail
  refine (unhide HD _ (unhide HM)).mono ?_
  rintro _ w3 ⟨rfl, hb⟩
  have HB := hide (bthen (unhide HB) hb)
  have HM := hide ((unhide HM).below hb)
  clear hb
  go_wp2_with fail
  refine (unhide HP _).mono ?_
  rintro _ w4 ⟨rfl, hb⟩
  have HB := hide (bthen (unhide HB) hb)
  have HM := hide ((unhide HM).below hb)
  clear hb
  go_wp2_with fail
  refine (unhide H1 _).mono ?_
  rintro _ w5 ⟨rfl, hb⟩
  have HB := hide (bthen (unhide HB) hb)
  have HM := hide ((unhide HM).below hb)
  clear hb
  go_wp2_with fail
  refine (unhide H2 _).mono ?_
  rintro _ w6 ⟨rfl, hb⟩
  have HB := hide (bthen (unhide HB) hb)
  have HM := hide ((unhide HM).below hb)
  clear hb
  go_wp2_with fail
  refine (unhide H1 _).mono ?_
  rintro _ w7 ⟨rfl, hb⟩
  have HB := hide (bthen (unhide HB) hb)
  have HM := hide ((unhide HM).below hb)
  clear hb
  go_wp2_with fail
  refine (unhide H3 _).mono ?_
  rintro _ w8 ⟨rfl, hb⟩
  have HB := hide (bthen (unhide HB) hb)
  have HM := hide ((unhide HM).below hb)
  clear hb
  go_wp2_with fail
  refine (unhide H4 _).mono ?_
  rintro _ w9 ⟨rfl, hb⟩
  have HB := hide (bthen (unhide HB) hb)
  have HM := hide ((unhide HM).below hb)
  clear hb
  go_wp2_with fail
  go_ret
  exact ⟨by simp, unhide HB⟩
set_option maxHeartbeats 4000000 in
set_option maxRecDepth 100000 in
theorem runs_64z {a : Int} (HA0 : Ct 4 #[] (.bool true)) (HU : Ct 5 #[.int .i64 64, .int .u64 a] (.int .u64 64)) (HD : Cm 6 #[.int .i64 64, .int .u64 a] (.int .u64 64)) (HP : Ct 7 #[.int .i64 64, .int .u64 a] (.int .u64 0)) : Cm 3 #[.int .i64 64, .int .u64 a] (.bool true) := by
  refine hide (fun W hM => ?_)
  have HM := hide hM
  clear hM
  have HB := hide (Below.refl W.heap.size W)
  go_enter Tryd.func3, Tryd.ntmps3
  go_wp2_with fail
  refine (unhide HA0 _).mono ?_
  rintro _ w1 ⟨rfl, hb⟩
  have HB := hide (bthen (unhide HB) hb)
  have HM := hide ((unhide HM).below hb)
  clear hb
  go_wp2_with fail
  refine (unhide HU _).mono ?_
  rintro _ w2 ⟨rfl, hb⟩
  have HB := hide (bthen (unhide HB) hb)
  have HM := hide ((unhide HM).below hb)
  clear hb
  go_wp2_with fail
  refine (unhide HD _ (unhide HM)).mono ?_
  rintro _ w3 ⟨rfl, hb⟩
  have HB := hide (bthen (unhide HB) hb)
  have HM := hide ((unhide HM).below hb)
  clear hb
  go_wp2_with fail
  refine (unhide HP _).mono ?_
  rintro _ w4 ⟨rfl, hb⟩
  have HB := hide (bthen (unhide HB) hb)
  have HM := hide ((unhide HM).below hb)
  clear hb
  go_wp2_with fail
  go_ret
  exact ⟨by first | rfl | simp, unhide HB⟩
set_option maxHeartbeats 4000000 in
set_option maxRecDepth 100000 in
theorem runs_64n {a u d p x1 y c e : Int} (HA0 : Ct 4 #[] (.bool true)) (HU : Ct 5 #[.int .i64 64, .int .u64 a] (.int .u64 u)) (HD : Cm 6 #[.int .i64 64, .int .u64 a] (.int .u64 d)) (HP : Ct 7 #[.int .i64 64, .int .u64 a] (.int .u64 p)) (gp : (p == 0) = false) (H1 : Ct 8 #[.int .i64 64, .int .u64 a, .int .u64 u] (.int .u64 x1)) (h1 : x1 / 9223372036854775808 = 1) (H2 : Ct 9 #[.int .i64 64, .int .u64 a, .int .u64 d] (.int .u64 y)) (h2 : bits .and .u64 y 1 = 1) (H3 : Ct 9 #[.int .i64 64, .int .u64 x1, .int .u64 u] (.int .u64 c)) (H4 : Ct 10 #[.int .i64 64, .int .u64 a, .int .u64 0] (.int .u64 c)) (he : IntKind.u64.wrap (u + d) = e) (h5 : e < 64) : Cm 3 #[.int .i64 64, .int .u64 a] (.bool true) := by
  refine hide (fun W hM => ?_)
  have HM := hide hM
  clear hM
  have HB := hide (Below.refl W.heap.size W)
  go_enter Tryd.func3, Tryd.ntmps3
  go_wp2_with fail
  refine (unhide HA0 _).mono ?_
  rintro _ w1 ⟨rfl, hb⟩
  have HB := hide (bthen (unhide HB) hb)
  have HM := hide ((unhide HM).below hb)
  clear hb
  go_wp2_with fail
  refine (unhide HU _).mono ?_
  rintro _ w2 ⟨rfl, hb⟩
  have HB := hide (bthen (unhide HB) hb)
  have HM := hide ((unhide HM).below hb)
  clear hb
  go_wp2_with fail
  refine (unhide HD _ (unhide HM)).mono ?_
  rintro _ w3 ⟨rfl, hb⟩
  have HB := hide (bthen (unhide HB) hb)
  have HM := hide ((unhide HM).below hb)
  clear hb
  go_wp2_with fail
  refine (unhide HP _).mono ?_
  rintro _ w4 ⟨rfl, hb⟩
  have HB := hide (bthen (unhide HB) hb)
  have HM := hide ((unhide HM).below hb)
  clear hb
  go_wp2_with fail
  refine (unhide H1 _).mono ?_
  rintro _ w5 ⟨rfl, hb⟩
  have HB := hide (bthen (unhide HB) hb)
  have HM := hide ((unhide HM).below hb)
  clear hb
  go_wp2_with fail
  refine (unhide H2 _).mono ?_
  rintro _ w6 ⟨rfl, hb⟩
  have HB := hide (bthen (unhide HB) hb)
  have HM := hide ((unhide HM).below hb)
  clear hb
  go_wp2_with fail
  refine (unhide H1 _).mono ?_
  rintro _ w7 ⟨rfl, hb⟩
  have HB := hide (bthen (unhide HB) hb)
  have HM := hide ((unhide HM).below hb)
  clear hb
  go_wp2_with fail
  refine (unhide H3 _).mono ?_
  rintro _ w8 ⟨rfl, hb⟩
  have HB := hide (bthen (unhide HB) hb)
  have HM := hide ((unhide HM).below hb)
  clear hb
  go_wp2_with fail
  refine (unhide H4 _).mono ?_
  rintro _ w9 ⟨rfl, hb⟩
  have HB := hide (bthen (unhide HB) hb)
  have HM := hide ((unhide HM).below hb)
  clear hb
  go_wp2_with fail
  go_ret
  exact ⟨by simp, unhide HB⟩
end Go.Proofs.YtjlegmgpgfjciabDoor
