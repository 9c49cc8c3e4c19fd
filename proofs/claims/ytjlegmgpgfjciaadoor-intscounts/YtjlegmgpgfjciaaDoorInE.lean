/- Walks of package ints: Clz, Ctz, Extend. -/
import Derived.Test.YtjlegmgpgfjciaaDoorCsT
namespace Go.Proofs.YtjlegmgpgfjciaaDoor
open Go.RowKit

set_option maxHeartbeats 4000000 in
set_option maxRecDepth 100000 in
theorem kn_l {w e f : Int} (HF : Ct 45 #[.int .i64 w] (.tuple #[.int .i64 e, .int .i64 f])) : Ct 20 #[.int .i64 w] (.bool (e != 0)) := by
  refine hide (fun W => ?_)
  have HB := hide (Below.refl W.heap.size W)
  go_enter Tryd.func20, Tryd.ntmps20
  go_wp2_with fail
  refine (unhide HF _).mono ?_
  rintro _ w1 ⟨rfl, hb⟩
  have HB := hide (bthen (unhide HB) hb)
  clear hb
  go_wp2_with fail
  go_ret
  exact ⟨rfl, unhide HB⟩
set_option maxHeartbeats 4000000 in
set_option maxRecDepth 100000 in
theorem clz_n {w a : Int} (HK : Ct 20 #[.int .i64 w] (.bool false)) : Ct 5 #[.int .i64 w, .int .u64 a] (.int .u64 0) := by
  refine hide (fun W => ?_)
  have HB := hide (Below.refl W.heap.size W)
  go_enter Tryd.func5, Tryd.ntmps5
  go_wp2_with fail
  refine (unhide HK _).mono ?_
  rintro _ w1 ⟨rfl, hb⟩
  have HB := hide (bthen (unhide HB) hb)
  clear hb
  go_wp2_with fail
  go_ret
  exact ⟨rfl, unhide HB⟩
set_option maxHeartbeats 4000000 in
set_option maxRecDepth 100000 in
theorem clz_m {w a c l d r : Int} (HK : Ct 20 #[.int .i64 w] (.bool true)) (HC : Ct 22 #[.int .i64 w, .int .u64 a] (.int .u64 c)) (HL : Ct 21 #[.int .u64 c] (.int .i64 l)) (hd : IntKind.i64.wrap (w - l) = d) (hr : IntKind.u64.wrap d = r) : Ct 5 #[.int .i64 w, .int .u64 a] (.int .u64 r) := by
  refine hide (fun W => ?_)
  have HB := hide (Below.refl W.heap.size W)
  go_enter Tryd.func5, Tryd.ntmps5
  go_wp2_with fail
  refine (unhide HK _).mono ?_
  rintro _ w1 ⟨rfl, hb⟩
  have HB := hide (bthen (unhide HB) hb)
  clear hb
  go_wp2_with fail
  refine (unhide HC _).mono ?_
  rintro _ w2 ⟨rfl, hb⟩
  have HB := hide (bthen (unhide HB) hb)
  clear hb
  go_wp2_with fail
  refine (unhide HL _).mono ?_
  rintro _ w3 ⟨rfl, hb⟩
  have HB := hide (bthen (unhide HB) hb)
  clear hb
  go_wp2_with fail
  go_ret
  exact ⟨rfl, unhide HB⟩
set_option maxHeartbeats 4000000 in
set_option maxRecDepth 100000 in
theorem ctz_n {w a : Int} (HK : Ct 20 #[.int .i64 w] (.bool false)) : Ct 6 #[.int .i64 w, .int .u64 a] (.int .u64 0) := by
  refine hide (fun W => ?_)
  have HB := hide (Below.refl W.heap.size W)
  go_enter Tryd.func6, Tryd.ntmps6
  go_wp2_with fail
  refine (unhide HK _).mono ?_
  rintro _ w1 ⟨rfl, hb⟩
  have HB := hide (bthen (unhide HB) hb)
  clear hb
  go_wp2_with fail
  go_ret
  exact ⟨rfl, unhide HB⟩
set_option maxHeartbeats 4000000 in
set_option maxRecDepth 100000 in
theorem ctz_le {w a t r : Int} (HK : Ct 20 #[.int .i64 w] (.bool true)) (HT : Cm 23 #[.int .u64 a] (.int .i64 t)) (g : w ≤ t) (hr : IntKind.u64.wrap w = r) : Cm 6 #[.int .i64 w, .int .u64 a] (.int .u64 r) := by
  refine hide (fun W hM => ?_)
  have HM := hide hM
  clear hM
  have HB := hide (Below.refl W.heap.size W)
  go_enter Tryd.func6, Tryd.ntmps6
  go_wp2_with fail
  refine (unhide HK _).mono ?_
  rintro _ w1 ⟨rfl, hb⟩
  have HB := hide (bthen (unhide HB) hb)
  have HM := hide ((unhide HM).below hb)
  clear hb
  go_wp2_with fail
  refine (unhide HT _ (unhide HM)).mono ?_
  rintro _ w2 ⟨rfl, hb⟩
  have HB := hide (bthen (unhide HB) hb)
  clear hb
  go_wp2_with fail
  go_ret
  exact ⟨by first | rfl | simp, unhide HB⟩
set_option maxHeartbeats 4000000 in
set_option maxRecDepth 100000 in
theorem ctz_gt {w a t r : Int} (HK : Ct 20 #[.int .i64 w] (.bool true)) (HT : Cm 23 #[.int .u64 a] (.int .i64 t)) (g : t < w) (hr : IntKind.u64.wrap t = r) : Cm 6 #[.int .i64 w, .int .u64 a] (.int .u64 r) := by
  refine hide (fun W hM => ?_)
  have HM := hide hM
  clear hM
  have HB := hide (Below.refl W.heap.size W)
  go_enter Tryd.func6, Tryd.ntmps6
  go_wp2_with fail
  refine (unhide HK _).mono ?_
  rintro _ w1 ⟨rfl, hb⟩
  have HB := hide (bthen (unhide HB) hb)
  have HM := hide ((unhide HM).below hb)
  clear hb
  go_wp2_with fail
  refine (unhide HT _ (unhide HM)).mono ?_
  rintro _ w2 ⟨rfl, hb⟩
  have HB := hide (bthen (unhide HB) hb)
  clear hb
  go_wp2_with fail
  go_ret
  exact ⟨by first | rfl | simp, unhide HB⟩
set_option maxHeartbeats 4000000 in
set_option maxRecDepth 100000 in
theorem piece_8  : Ct 31 #[.int .i64 8] (.bool true) := by
  refine hide (fun W => ?_)
  have HB := hide (Below.refl W.heap.size W)
  go_enter Tryd.func31, Tryd.ntmps31
  go_wp2_with fail
  go_ret
  exact ⟨rfl, unhide HB⟩
set_option maxHeartbeats 4000000 in
set_option maxRecDepth 100000 in
theorem piece_16  : Ct 31 #[.int .i64 16] (.bool true) := by
  refine hide (fun W => ?_)
  have HB := hide (Below.refl W.heap.size W)
  go_enter Tryd.func31, Tryd.ntmps31
  go_wp2_with fail
  go_ret
  exact ⟨rfl, unhide HB⟩
set_option maxHeartbeats 4000000 in
set_option maxRecDepth 100000 in
theorem piece_32  : Ct 31 #[.int .i64 32] (.bool true) := by
  refine hide (fun W => ?_)
  have HB := hide (Below.refl W.heap.size W)
  go_enter Tryd.func31, Tryd.ntmps31
  go_wp2_with fail
  go_ret
  exact ⟨rfl, unhide HB⟩
set_option maxHeartbeats 4000000 in
set_option maxRecDepth 100000 in
theorem piece_64  : Ct 31 #[.int .i64 64] (.bool true) := by
  refine hide (fun W => ?_)
  have HB := hide (Below.refl W.heap.size W)
  go_enter Tryd.func31, Tryd.ntmps31
  go_wp2_with fail
  go_ret
  exact ⟨rfl, unhide HB⟩
set_option maxHeartbeats 4000000 in
set_option maxRecDepth 100000 in
theorem piece_no {f : Int} (h1 : (f == 8) = false) (h2 : (f == 16) = false) (h3 : (f == 32) = false) (h4 : (f == 64) = false) : Ct 31 #[.int .i64 f] (.bool false) := by
  refine hide (fun W => ?_)
  have HB := hide (Below.refl W.heap.size W)
  go_enter Tryd.func31, Tryd.ntmps31
  go_wp2_with fail
  go_ret
  exact ⟨rfl, unhide HB⟩
set_option maxHeartbeats 4000000 in
set_option maxRecDepth 100000 in
theorem ext_no {w f a : Int} {s : Bool} (HP : Ct 31 #[.int .i64 f] (.bool false)) : Ct 10 #[.int .i64 w, .int .i64 f, .int .u64 a, .bool s] (.int .u64 0) := by
  refine hide (fun W => ?_)
  have HB := hide (Below.refl W.heap.size W)
  go_enter Tryd.func10, Tryd.ntmps10
  go_wp2_with fail
  refine (unhide HP _).mono ?_
  rintro _ w1 ⟨rfl, hb⟩
  have HB := hide (bthen (unhide HB) hb)
  clear hb
  go_wp2_with fail
  go_ret
  exact ⟨rfl, unhide HB⟩
set_option maxHeartbeats 4000000 in
set_option maxRecDepth 100000 in
theorem ext_gt {w f a : Int} {s : Bool} (HP : Ct 31 #[.int .i64 f] (.bool true)) (g : w < f) : Ct 10 #[.int .i64 w, .int .i64 f, .int .u64 a, .bool s] (.int .u64 0) := by
  refine hide (fun W => ?_)
  have HB := hide (Below.refl W.heap.size W)
  go_enter Tryd.func10, Tryd.ntmps10
  go_wp2_with fail
  refine (unhide HP _).mono ?_
  rintro _ w1 ⟨rfl, hb⟩
  have HB := hide (bthen (unhide HB) hb)
  clear hb
  go_wp2_with fail
  go_ret
  exact ⟨rfl, unhide HB⟩
set_option maxHeartbeats 4000000 in
set_option maxRecDepth 100000 in
theorem ext_t {w f a d u h r v : Int} (HP : Ct 31 #[.int .i64 f] (.bool true)) (g : f ≤ w) (hd : IntKind.i64.wrap (64 - f) = d) (hu : IntKind.u64.wrap d = u) (HL : Ct 32 #[.int .i64 64, .int .u64 a, .int .u64 u] (.int .u64 h)) (HR : Ct 18 #[.int .i64 64, .int .u64 h, .int .u64 u] (.int .u64 r)) (HC : Ct 22 #[.int .i64 w, .int .u64 r] (.int .u64 v)) : Ct 10 #[.int .i64 w, .int .i64 f, .int .u64 a, .bool true] (.int .u64 v) := by
  refine hide (fun W => ?_)
  have HB := hide (Below.refl W.heap.size W)
  go_enter Tryd.func10, Tryd.ntmps10
  go_wp2_with fail
  refine (unhide HP _).mono ?_
  rintro _ w1 ⟨rfl, hb⟩
  have HB := hide (bthen (unhide HB) hb)
  clear hb
  go_wp2_with fail
  refine (unhide HL _).mono ?_
  rintro _ w2 ⟨rfl, hb⟩
  have HB := hide (bthen (unhide HB) hb)
  clear hb
  go_wp2_with fail
  refine (unhide HR _).mono ?_
  rintro _ w3 ⟨rfl, hb⟩
  have HB := hide (bthen (unhide HB) hb)
  clear hb
  go_wp2_with fail
  refine (unhide HC _).mono ?_
  rintro _ w4 ⟨rfl, hb⟩
  have HB := hide (bthen (unhide HB) hb)
  clear hb
  go_wp2_with fail
  go_ret
  exact ⟨rfl, unhide HB⟩
set_option maxHeartbeats 4000000 in
set_option maxRecDepth 100000 in
theorem ext_f {w f a d u h r v : Int} (HP : Ct 31 #[.int .i64 f] (.bool true)) (g : f ≤ w) (hd : IntKind.i64.wrap (64 - f) = d) (hu : IntKind.u64.wrap d = u) (HL : Ct 32 #[.int .i64 64, .int .u64 a, .int .u64 u] (.int .u64 h)) (HR : Ct 33 #[.int .i64 64, .int .u64 h, .int .u64 u] (.int .u64 r)) (HC : Ct 22 #[.int .i64 w, .int .u64 r] (.int .u64 v)) : Ct 10 #[.int .i64 w, .int .i64 f, .int .u64 a, .bool false] (.int .u64 v) := by
  refine hide (fun W => ?_)
  have HB := hide (Below.refl W.heap.size W)
  go_enter Tryd.func10, Tryd.ntmps10
  go_wp2_with fail
  refine (unhide HP _).mono ?_
  rintro _ w1 ⟨rfl, hb⟩
  have HB := hide (bthen (unhide HB) hb)
  clear hb
  go_wp2_with fail
  refine (unhide HL _).mono ?_
  rintro _ w2 ⟨rfl, hb⟩
  have HB := hide (bthen (unhide HB) hb)
  clear hb
  go_wp2_with fail
  refine (unhide HR _).mono ?_
  rintro _ w3 ⟨rfl, hb⟩
  have HB := hide (bthen (unhide HB) hb)
  clear hb
  go_wp2_with fail
  refine (unhide HC _).mono ?_
  rintro _ w4 ⟨rfl, hb⟩
  have HB := hide (bthen (unhide HB) hb)
  clear hb
  go_wp2_with fail
  go_ret
  exact ⟨rfl, unhide HB⟩
end Go.Proofs.YtjlegmgpgfjciaaDoor
