/- Walks of package ints: Clz, Ctz, Extend. -/
import Derived.Test.YtjlegmgpgfjciabDoorCsT
namespace Go.Proofs.YtjlegmgpgfjciabDoor
open Go.RowKit

set_option maxHeartbeats 4000000 in
set_option maxRecDepth 100000 in
theorem kn_l {w e f : Int} (HF : Ct 30 #[.int .i64 w] (.tuple #[.int .i64 e, .int .i64 f])) : Ct 13 #[.int .i64 w] (.bool (e != 0)) := by
  refine hide (fun W => ?_)
  have HB := hide (Below.refl W.heap.size W)
  go_enter Tryd.func13, Tryd.ntmps13
  go_wp2_with fail
  refine (unhide HF _).mono ?_
  rintro _ w1 ⟨rfl, hb⟩
  have HB := hide (bthen (unhide HB) hb)
  clear hb
  go_wp2_with fail
  go_ret
  exact ⟨rfl, unhide HB⟩
set_option maxHeartbeats 4000000 in
set_option maxRecDepth 100000 in
theorem clz_n {w a : Int} (HK : Ct 13 #[.int .i64 w] (.bool false)) : Ct 5 #[.int .i64 w, .int .u64 a] (.int .u64 0) := by
  refine hide (fun W => ?_)
  have HB := hide (Below.refl W.heap.size W)
  go_enter Tryd.func5, Tryd.ntmps5
  go_wp2_with fail
  refine (unhide HK _).mono ?_
  rintro _ w1 ⟨rfl, hb⟩
  have HB := hide (bthen (unhide HB) hb)
  clear hb
  go_wp2_with fail
  go_ret
  exact ⟨rfl, unhide HB⟩
set_option maxHeartbeats 4000000 in
set_option maxRecDepth 100000 in
theorem clz_m {w a c l d r : Int} (HK : Ct 13 #[.int .i64 w] (.bool true)) (HC : Ct 15 #[.int .i64 w, .int .u64 a] (.int .u64 c)) (HL : Ct 14 #[.int .u64 c] (.int .i64 l)) (hd : IntKind.i64.wrap (w - l) = d) (hr : IntKind.u64.wrap d = r) : Ct 5 #[.int .i64 w, .int .u64 a] (.int .u64 r) := by
  refine hide (fun W => ?_)
  have HB := hide (Below.refl W.heap.size W)
  go_enter Tryd.func5, Tryd.ntmps5
  go_wp2_with fail
  refine (unhide HK _).mono ?_
  rintro _ w1 ⟨rfl, hb⟩
  have HB := hide (bthen (unhide HB) hb)
  clear hb
  go_wp2_with fail
  refine (unhide HC _).mono ?_
  rintro _ w2 ⟨rfl, hb⟩
  have HB := hide (bthen (unhide HB) hb)
  clear hb
  go_wp2_with fail
  refine (unhide HL _).mono ?_
  rintro _ w3 ⟨rfl, hb⟩
  have HB := hide (bthen (unhide HB) hb)
  clear hb
  go_wp2_with fail
  go_ret
  exact ⟨rfl, unhide HB⟩
set_option maxHeartbeats 4000000 in
set_option maxRecDepth 100000 in
theorem ctz_n {w a : Int} (HK : Ct 13 #[.int .i64 w] (.bool false)) : Ct 6 #[.int .i64 w, .int .u64 a] (.int .u64 0) := by
  refine hide (fun W => ?_)
  have HB := hide (Below.refl W.heap.size W)
  go_enter Tryd.func6, Tryd.ntmps6
  go_wp2_with fail
  refine (unhide HK _).mono ?_
  rintro _ w1 ⟨rfl, hb⟩
  have HB := hide (bthen (unhide HB) hb)
  clear hb
  go_wp2_with fail
  go_ret
  exact ⟨rfl, unhide HB⟩
set_option maxHeartbeats 4000000 in
set_option maxRecDepth 100000 in
theorem ctz_le {w a t r : Int} (HK : Ct 13 #[.int .i64 w] (.bool true)) (HT : Cm 16 #[.int .u64 a] (.int .i64 t)) (g : w ≤ t) (hr : IntKind.u64.wrap w = r) : Cm 6 #[.int .i64 w, .int .u64 a] (.int .u64 r) := by
  refine hide (fun W hM => ?_)
  have HM := hide hM
  clear hM
  have HB := hide (Below.refl W.heap.size W)
  go_enter Tryd.func6, Tryd.ntmps6
  go_wp2_with fail
  refine (unhide HK _).mono ?_
  rintro _ w1 ⟨rfl, hb⟩
  have HB := hide (bthen (unhide HB) hb)
  have HM := hide ((unhide HM).below hb)
  clear hb
  go_wp2_with fail
  refine (unhide HT _ (unhide HM)).mono ?_
  rintro _ w2 ⟨rfl, hb⟩
  have HB := hide (bthen (unhide HB) hb)
  clear hb
  go_wp2_with fail
  go_ret
  exact ⟨by first | rfl | simp, unhide HB⟩
set_option maxHeartbeats 4000000 in
set_option maxRecDepth 100000 in
theorem ctz_gt {w a t r : Int} (HK : Ct 13 #[.int .i64 w] (.bool true)) (HT : Cm 16 #[.int .u64 a] (.int .i64 t)) (g : t < w) (hr : IntKind.u64.wrap t = r) : Cm 6 #[.int .i64 w, .int .u64 a] (.int .u64 r) := by
  refine hide (fun W hM => ?_)
  have HM := hide hM
  clear hM
  have HB := hide (Below.refl W.heap.size W)
  go_enter Tryd.func6, Tryd.ntmps6
  go_wp2_with fail
  refine (unhide HK _).mono ?_
  rintro _ w1 ⟨rfl, hb⟩
  have HB := hide (bthen (unhide HB) hb)
  have HM := hide ((unhide HM).below hb)
  clear hb
  go_wp2_with fail
  refine (unhide HT _ (unhide HM)).mono ?_
  rintro _ w2 ⟨rfl, hb⟩
  have HB := hide (bthen (unhide HB) hb)
  clear hb
  go_wp2_with fail
  go_ret
  exact ⟨by first | rfl | simp, unhide HB⟩
end Go.Proofs.YtjlegmgpgfjciabDoor
