/- The walk of IntsShifts. -/
import Derived.Test.YtjlegmgpgfjciaaTk
namespace Go.Proofs.Ytjlegmgpgfjciaa
open Go.RowKit

set_option maxHeartbeats 4000000 in
set_option maxRecDepth 100000 in
theorem shifts_no {w a b : Int} (HA0 : Ct 8 #[] (.bool true)) (H0 : Ct 23 #[.int .i64 w, .int .u64 a, .int .u64 b] (.int .u64 0)) (H1 : Ct 24 #[.int .i64 w, .int .u64 a, .int .u64 b] (.int .u64 0)) (H2 : Ct 25 #[.int .i64 w, .int .u64 a, .int .u64 b] (.int .u64 0)) (H3 : Ct 26 #[.int .i64 w, .int .u64 a, .int .u64 b] (.int .u64 0)) (H4 : Ct 27 #[.int .i64 w, .int .u64 a, .int .u64 b] (.int .u64 0)) (HK : Ct 12 #[.int .i64 w] (.bool false)) : Ct 5 #[.int .i64 w, .int .u64 a, .int .u64 b] (.bool true) := by
  refine hide (fun W => ?_)
  have HB := hide (Below.refl W.heap.size W)
  go_enter Try.func5, Try.ntmps5
  go_wp2_with fail
  refine (unhide HA0 _).mono ?_
  rintro _ w1 ⟨rfl, hb⟩
  have HB := hide (bthen (unhide HB) hb)
  clear hb
  go_wp2_with fail
  refine (unhide H0 _).mono ?_
  rintro _ w2 ⟨rfl, hb⟩
  have HB := hide (bthen (unhide HB) hb)
  clear hb
  go_wp2_with fail
  refine (unhide H1 _).mono ?_
  rintro _ w3 ⟨rfl, hb⟩
  have HB := hide (bthen (unhide HB) hb)
  clear hb
  go_wp2_with fail
  refine (unhide H2 _).mono ?_
  rintro _ w4 ⟨rfl, hb⟩
  have HB := hide (bthen (unhide HB) hb)
  clear hb
  go_wp2_with fail
  refine (unhide H3 _).mono ?_
  rintro _ w5 ⟨rfl, hb⟩
  have HB := hide (bthen (unhide HB) hb)
  clear hb
  go_wp2_with fail
  refine (unhide H4 _).mono ?_
  rintro _ w6 ⟨rfl, hb⟩
  have HB := hide (bthen (unhide HB) hb)
  clear hb
  go_wp2_with fail
  refine (unhide HK _).mono ?_
  rintro _ w7 ⟨rfl, hb⟩
  have HB := hide (bthen (unhide HB) hb)
  clear hb
  go_wp2_with fail
  go_ret
  exact ⟨by first | rfl | simp, unhide HB⟩
set_option maxHeartbeats 4000000 in
set_option maxRecDepth 100000 in
theorem shifts_32 {a b x1 x2 x3 x4 x5 c m : Int} {ng : Bool} (HA0 : Ct 8 #[] (.bool true)) (H0 : Ct 23 #[.int .i64 32, .int .u64 a, .int .u64 b] (.int .u64 x1)) (H1 : Ct 24 #[.int .i64 32, .int .u64 a, .int .u64 b] (.int .u64 x2)) (H2 : Ct 25 #[.int .i64 32, .int .u64 a, .int .u64 b] (.int .u64 x3)) (H3 : Ct 26 #[.int .i64 32, .int .u64 a, .int .u64 b] (.int .u64 x4)) (H4 : Ct 27 #[.int .i64 32, .int .u64 a, .int .u64 b] (.int .u64 x5)) (HK : Ct 12 #[.int .i64 32] (.bool true)) (HC : Ct 20 #[.int .i64 32, .int .u64 b] (.int .u64 c)) (c0 : 0 ≤ c) (hm : c % 32 = m) (HN : Ct 28 #[.int .i64 32, .int .u64 a] (.bool ng)) (T1 : Ct 29 #[.int .i64 32, .int .u64 a, .int .i64 m, .bool false, .bool false] (.int .u64 x1)) (T2 : Ct 29 #[.int .i64 32, .int .u64 a, .int .i64 (-m), .bool false, .bool false] (.int .u64 x2)) (T3 : Ct 29 #[.int .i64 32, .int .u64 a, .int .i64 (-m), .bool false, .bool ng] (.int .u64 x3)) (T4 : Ct 29 #[.int .i64 32, .int .u64 a, .int .i64 m, .bool true, .bool false] (.int .u64 x4)) (T5 : Ct 29 #[.int .i64 32, .int .u64 a, .int .i64 (-m), .bool true, .bool false] (.int .u64 x5)) : Ct 5 #[.int .i64 32, .int .u64 a, .int .u64 b] (.bool true) := by
  refine hide (fun W => ?_)
  have HB := hide (Below.refl W.heap.size W)
  go_enter Try.func5, Try.ntmps5
  go_wp2_with fail
  refine (unhide HA0 _).mono ?_
  rintro _ w1 ⟨rfl, hb⟩
  have HB := hide (bthen (unhide HB) hb)
  clear hb
  go_wp2_with fail
  refine (unhide H0 _).mono ?_
  rintro _ w2 ⟨rfl, hb⟩
  have HB := hide (bthen (unhide HB) hb)
  clear hb
  go_wp2_with fail
  refine (unhide H1 _).mono ?_
  rintro _ w3 ⟨rfl, hb⟩
  have HB := hide (bthen (unhide HB) hb)
  clear hb
  go_wp2_with fail
  refine (unhide H2 _).mono ?_
  rintro _ w4 ⟨rfl, hb⟩
  have HB := hide (bthen (unhide HB) hb)
  clear hb
  go_wp2_with fail
  refine (unhide H3 _).mono ?_
  rintro _ w5 ⟨rfl, hb⟩
  have HB := hide (bthen (unhide HB) hb)
  clear hb
  go_wp2_with fail
  refine (unhide H4 _).mono ?_
  rintro _ w6 ⟨rfl, hb⟩
  have HB := hide (bthen (unhide HB) hb)
  clear hb
  go_wp2_with fail
  refine (unhide HK _).mono ?_
  rintro _ w7 ⟨rfl, hb⟩
  have HB := hide (bthen (unhide HB) hb)
  clear hb
  go_wp2_with fail
  refine (unhide HC _).mono ?_
  rintro _ w8 ⟨rfl, hb⟩
  have HB := hide (bthen (unhide HB) hb)
  clear hb
  go_wp2_with fail
  refine (unhide HN _).mono ?_
  rintro _ w9 ⟨rfl, hb⟩
  have HB := hide (bthen (unhide HB) hb)
  clear hb
  go_wp2_with fail
  refine (unhide T1 _).mono ?_
  rintro _ w10 ⟨rfl, hb⟩
  have HB := hide (bthen (unhide HB) hb)
  clear hb
  go_wp2_with fail
  refine (unhide T2 _).mono ?_
  rintro _ w11 ⟨rfl, hb⟩
  have HB := hide (bthen (unhide HB) hb)
  clear hb
  go_wp2_with fail
  refine (unhide T3 _).mono ?_
  rintro _ w12 ⟨rfl, hb⟩
  have HB := hide (bthen (unhide HB) hb)
  clear hb
  go_wp2_with fail
  refine (unhide T4 _).mono ?_
  rintro _ w13 ⟨rfl, hb⟩
  have HB := hide (bthen (unhide HB) hb)
  clear hb
  go_wp2_with fail
  refine (unhide T5 _).mono ?_
  rintro _ w14 ⟨rfl, hb⟩
  have HB := hide (bthen (unhide HB) hb)
  clear hb
  go_wp2_with fail
  go_ret
  exact ⟨by simp, unhide HB⟩
set_option maxHeartbeats 4000000 in
set_option maxRecDepth 100000 in
theorem shifts_64 {a b x1 x2 x3 x4 x5 c m : Int} {ng : Bool} (HA0 : Ct 8 #[] (.bool true)) (H0 : Ct 23 #[.int .i64 64, .int .u64 a, .int .u64 b] (.int .u64 x1)) (H1 : Ct 24 #[.int .i64 64, .int .u64 a, .int .u64 b] (.int .u64 x2)) (H2 : Ct 25 #[.int .i64 64, .int .u64 a, .int .u64 b] (.int .u64 x3)) (H3 : Ct 26 #[.int .i64 64, .int .u64 a, .int .u64 b] (.int .u64 x4)) (H4 : Ct 27 #[.int .i64 64, .int .u64 a, .int .u64 b] (.int .u64 x5)) (HK : Ct 12 #[.int .i64 64] (.bool true)) (HC : Ct 20 #[.int .i64 64, .int .u64 b] (.int .u64 c)) (c0 : 0 ≤ c) (hm : c % 64 = m) (HN : Ct 28 #[.int .i64 64, .int .u64 a] (.bool ng)) (T1 : Ct 29 #[.int .i64 64, .int .u64 a, .int .i64 m, .bool false, .bool false] (.int .u64 x1)) (T2 : Ct 29 #[.int .i64 64, .int .u64 a, .int .i64 (-m), .bool false, .bool false] (.int .u64 x2)) (T3 : Ct 29 #[.int .i64 64, .int .u64 a, .int .i64 (-m), .bool false, .bool ng] (.int .u64 x3)) (T4 : Ct 29 #[.int .i64 64, .int .u64 a, .int .i64 m, .bool true, .bool false] (.int .u64 x4)) (T5 : Ct 29 #[.int .i64 64, .int .u64 a, .int .i64 (-m), .bool true, .bool false] (.int .u64 x5)) : Ct 5 #[.int .i64 64, .int .u64 a, .int .u64 b] (.bool true) := by
  refine hide (fun W => ?_)
  have HB := hide (Below.refl W.heap.size W)
  go_enter Try.func5, Try.ntmps5
  go_wp2_with fail
  refine (unhide HA0 _).mono ?_
  rintro _ w1 ⟨rfl, hb⟩
  have HB := hide (bthen (unhide HB) hb)
  clear hb
  go_wp2_with fail
  refine (unhide H0 _).mono ?_
  rintro _ w2 ⟨rfl, hb⟩
  have HB := hide (bthen (unhide HB) hb)
  clear hb
  go_wp2_with fail
  refine (unhide H1 _).mono ?_
  rintro _ w3 ⟨rfl, hb⟩
  have HB := hide (bthen (unhide HB) hb)
  clear hb
  go_wp2_with fail
  refine (unhide H2 _).mono ?_
  rintro _ w4 ⟨rfl, hb⟩
  have HB := hide (bthen (unhide HB) hb)
  clear hb
  go_wp2_with fail
  refine (unhide H3 _).mono ?_
  rintro _ w5 ⟨rfl, hb⟩
  have HB := hide (bthen (unhide HB) hb)
  clear hb
  go_wp2_with fail
  refine (unhide H4 _).mono ?_
  rintro _ w6 ⟨rfl, hb⟩
  have HB := hide (bthen (unhide HB) hb)
  clear hb
  go_wp2_with fail
  refine (unhide HK _).mono ?_
  rintro _ w7 ⟨rfl, hb⟩
  have HB := hide (bthen (unhide HB) hb)
  clear hb
  go_wp2_with fail
  refine (unhide HC _).mono ?_
  rintro _ w8 ⟨rfl, hb⟩
  have HB := hide (bthen (unhide HB) hb)
  clear hb
  go_wp2_with fail
  refine (unhide HN _).mono ?_
  rintro _ w9 ⟨rfl, hb⟩
  have HB := hide (bthen (unhide HB) hb)
  clear hb
  go_wp2_with fail
  refine (unhide T1 _).mono ?_
  rintro _ w10 ⟨rfl, hb⟩
  have HB := hide (bthen (unhide HB) hb)
  clear hb
  go_wp2_with fail
  refine (unhide T2 _).mono ?_
  rintro _ w11 ⟨rfl, hb⟩
  have HB := hide (bthen (unhide HB) hb)
  clear hb
  go_wp2_with fail
  refine (unhide T3 _).mono ?_
  rintro _ w12 ⟨rfl, hb⟩
  have HB := hide (bthen (unhide HB) hb)
  clear hb
  go_wp2_with fail
  refine (unhide T4 _).mono ?_
  rintro _ w13 ⟨rfl, hb⟩
  have HB := hide (bthen (unhide HB) hb)
  clear hb
  go_wp2_with fail
  refine (unhide T5 _).mono ?_
  rintro _ w14 ⟨rfl, hb⟩
  have HB := hide (bthen (unhide HB) hb)
  clear hb
  go_wp2_with fail
  go_ret
  exact ⟨by simp, unhide HB⟩
end Go.Proofs.Ytjlegmgpgfjciaa
