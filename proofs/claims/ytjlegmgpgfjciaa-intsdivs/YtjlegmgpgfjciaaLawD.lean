/- The walk of IntsDivs. -/
import Derived.Test.YtjlegmgpgfjciaaTk
namespace Go.Proofs.Ytjlegmgpgfjciaa
open Go.RowKit

set_option maxHeartbeats 4000000 in
set_option maxRecDepth 100000 in
theorem divs_no_l {w a b : Int} (HA0 : Ct 8 #[] (.bool true)) (H1 : Ct 16 #[.int .i64 w, .int .u64 a, .int .u64 b] (.tuple #[.int .u64 0, .int .i64 0])) (H2 : Ct 17 #[.int .i64 w, .int .u64 a, .int .u64 b] (.tuple #[.int .u64 0, .int .i64 0])) (H3 : Ct 18 #[.int .i64 w, .int .u64 a, .int .u64 b] (.tuple #[.int .u64 0, .int .i64 0])) (H4 : Ct 19 #[.int .i64 w, .int .u64 a, .int .u64 b] (.tuple #[.int .u64 0, .int .i64 0])) (HK : Ct 12 #[.int .i64 w] (.bool false)) : Ct 4 #[.int .i64 w, .int .u64 a, .int .u64 b] (.bool true) := by
  refine hide (fun W => ?_)
  have HB := hide (Below.refl W.heap.size W)
  go_enter Try.func4, Try.ntmps4
  go_wp2_with fail
  refine (unhide HA0 _).mono ?_
  rintro _ w1 ⟨rfl, hb⟩
  have HB := hide (bthen (unhide HB) hb)
  clear hb
  go_wp2_with fail
  refine (unhide H1 _).mono ?_
  rintro _ w2 ⟨rfl, hb⟩
  have HB := hide (bthen (unhide HB) hb)
  clear hb
  go_wp2_with fail
  refine (unhide H2 _).mono ?_
  rintro _ w3 ⟨rfl, hb⟩
  have HB := hide (bthen (unhide HB) hb)
  clear hb
  go_wp2_with fail
  refine (unhide H3 _).mono ?_
  rintro _ w4 ⟨rfl, hb⟩
  have HB := hide (bthen (unhide HB) hb)
  clear hb
  go_wp2_with fail
  refine (unhide H4 _).mono ?_
  rintro _ w5 ⟨rfl, hb⟩
  have HB := hide (bthen (unhide HB) hb)
  clear hb
  go_wp2_with fail
  refine (unhide HK _).mono ?_
  rintro _ w6 ⟨rfl, hb⟩
  have HB := hide (bthen (unhide HB) hb)
  clear hb
  go_wp2_with fail
  go_ret
  exact ⟨by simp, unhide HB⟩
set_option maxHeartbeats 4000000 in
set_option maxRecDepth 100000 in
theorem divs_z_l {w a b : Int} (HA0 : Ct 8 #[] (.bool true)) (H1 : Ct 16 #[.int .i64 w, .int .u64 a, .int .u64 b] (.tuple #[.int .u64 0, .int .i64 2])) (H2 : Ct 17 #[.int .i64 w, .int .u64 a, .int .u64 b] (.tuple #[.int .u64 0, .int .i64 2])) (H3 : Ct 18 #[.int .i64 w, .int .u64 a, .int .u64 b] (.tuple #[.int .u64 0, .int .i64 2])) (H4 : Ct 19 #[.int .i64 w, .int .u64 a, .int .u64 b] (.tuple #[.int .u64 0, .int .i64 2])) (HK : Ct 12 #[.int .i64 w] (.bool true)) (HC : Ct 20 #[.int .i64 w, .int .u64 b] (.int .u64 0)) : Ct 4 #[.int .i64 w, .int .u64 a, .int .u64 b] (.bool true) := by
  refine hide (fun W => ?_)
  have HB := hide (Below.refl W.heap.size W)
  go_enter Try.func4, Try.ntmps4
  go_wp2_with fail
  refine (unhide HA0 _).mono ?_
  rintro _ w1 ⟨rfl, hb⟩
  have HB := hide (bthen (unhide HB) hb)
  clear hb
  go_wp2_with fail
  refine (unhide H1 _).mono ?_
  rintro _ w2 ⟨rfl, hb⟩
  have HB := hide (bthen (unhide HB) hb)
  clear hb
  go_wp2_with fail
  refine (unhide H2 _).mono ?_
  rintro _ w3 ⟨rfl, hb⟩
  have HB := hide (bthen (unhide HB) hb)
  clear hb
  go_wp2_with fail
  refine (unhide H3 _).mono ?_
  rintro _ w4 ⟨rfl, hb⟩
  have HB := hide (bthen (unhide HB) hb)
  clear hb
  go_wp2_with fail
  refine (unhide H4 _).mono ?_
  rintro _ w5 ⟨rfl, hb⟩
  have HB := hide (bthen (unhide HB) hb)
  clear hb
  go_wp2_with fail
  refine (unhide HK _).mono ?_
  rintro _ w6 ⟨rfl, hb⟩
  have HB := hide (bthen (unhide HB) hb)
  clear hb
  go_wp2_with fail
  refine (unhide HC _).mono ?_
  rintro _ w7 ⟨rfl, hb⟩
  have HB := hide (bthen (unhide HB) hb)
  clear hb
  go_wp2_with fail
  go_ret
  exact ⟨by simp, unhide HB⟩
set_option maxHeartbeats 4000000 in
set_option maxRecDepth 100000 in
theorem divs_n_l {w a b c q r p v : Int} (HA0 : Ct 8 #[] (.bool true)) (H1 : Ct 16 #[.int .i64 w, .int .u64 a, .int .u64 b] (.tuple #[.int .u64 q, .int .i64 0])) (H2 : Ct 17 #[.int .i64 w, .int .u64 a, .int .u64 b] (.tuple #[.int .u64 r, .int .i64 0])) (H3 : Ct 18 #[.int .i64 w, .int .u64 a, .int .u64 b] (.tuple #[.int .u64 p, .int .i64 0])) (H4 : Ct 19 #[.int .i64 w, .int .u64 a, .int .u64 b] (.tuple #[.int .u64 v, .int .i64 0])) (HK : Ct 12 #[.int .i64 w] (.bool true)) (HC : Ct 20 #[.int .i64 w, .int .u64 b] (.int .u64 c)) (gc : (c == 0) = false) (R1 : Ct 21 #[.int .i64 w, .int .u64 a, .int .u64 b] (.tuple #[.int .u64 q, .int .u64 r])) (R2 : Ct 22 #[.int .i64 w, .int .u64 a, .int .u64 b] (.tuple #[.int .u64 p, .int .u64 v, .bool false])) : Ct 4 #[.int .i64 w, .int .u64 a, .int .u64 b] (.bool true) := by
  refine hide (fun W => ?_)
  have HB := hide (Below.refl W.heap.size W)
  go_enter Try.func4, Try.ntmps4
  go_wp2_with fail
  refine (unhide HA0 _).mono ?_
  rintro _ w1 ⟨rfl, hb⟩
  have HB := hide (bthen (unhide HB) hb)
  clear hb
  go_wp2_with fail
  refine (unhide H1 _).mono ?_
  rintro _ w2 ⟨rfl, hb⟩
  have HB := hide (bthen (unhide HB) hb)
  clear hb
  go_wp2_with fail
  refine (unhide H2 _).mono ?_
  rintro _ w3 ⟨rfl, hb⟩
  have HB := hide (bthen (unhide HB) hb)
  clear hb
  go_wp2_with fail
  refine (unhide H3 _).mono ?_
  rintro _ w4 ⟨rfl, hb⟩
  have HB := hide (bthen (unhide HB) hb)
  clear hb
  go_wp2_with fail
  refine (unhide H4 _).mono ?_
  rintro _ w5 ⟨rfl, hb⟩
  have HB := hide (bthen (unhide HB) hb)
  clear hb
  go_wp2_with fail
  refine (unhide HK _).mono ?_
  rintro _ w6 ⟨rfl, hb⟩
  have HB := hide (bthen (unhide HB) hb)
  clear hb
  go_wp2_with fail
  refine (unhide HC _).mono ?_
  rintro _ w7 ⟨rfl, hb⟩
  have HB := hide (bthen (unhide HB) hb)
  clear hb
  go_wp2_with fail
  refine (unhide R1 _).mono ?_
  rintro _ w8 ⟨rfl, hb⟩
  have HB := hide (bthen (unhide HB) hb)
  clear hb
  go_wp2_with fail
  refine (unhide R2 _).mono ?_
  rintro _ w9 ⟨rfl, hb⟩
  have HB := hide (bthen (unhide HB) hb)
  clear hb
  go_wp2_with fail
  go_ret
  exact ⟨by simp, unhide HB⟩
set_option maxHeartbeats 4000000 in
set_option maxRecDepth 100000 in
theorem divs_o_l {w a b c q r p v : Int} (HA0 : Ct 8 #[] (.bool true)) (H1 : Ct 16 #[.int .i64 w, .int .u64 a, .int .u64 b] (.tuple #[.int .u64 q, .int .i64 0])) (H2 : Ct 17 #[.int .i64 w, .int .u64 a, .int .u64 b] (.tuple #[.int .u64 r, .int .i64 0])) (H3 : Ct 18 #[.int .i64 w, .int .u64 a, .int .u64 b] (.tuple #[.int .u64 0, .int .i64 3])) (H4 : Ct 19 #[.int .i64 w, .int .u64 a, .int .u64 b] (.tuple #[.int .u64 v, .int .i64 0])) (HK : Ct 12 #[.int .i64 w] (.bool true)) (HC : Ct 20 #[.int .i64 w, .int .u64 b] (.int .u64 c)) (gc : (c == 0) = false) (R1 : Ct 21 #[.int .i64 w, .int .u64 a, .int .u64 b] (.tuple #[.int .u64 q, .int .u64 r])) (R2 : Ct 22 #[.int .i64 w, .int .u64 a, .int .u64 b] (.tuple #[.int .u64 p, .int .u64 v, .bool true])) : Ct 4 #[.int .i64 w, .int .u64 a, .int .u64 b] (.bool true) := by
  refine hide (fun W => ?_)
  have HB := hide (Below.refl W.heap.size W)
  go_enter Try.func4, Try.ntmps4
  go_wp2_with fail
  refine (unhide HA0 _).mono ?_
  rintro _ w1 ⟨rfl, hb⟩
  have HB := hide (bthen (unhide HB) hb)
  clear hb
  go_wp2_with fail
  refine (unhide H1 _).mono ?_
  rintro _ w2 ⟨rfl, hb⟩
  have HB := hide (bthen (unhide HB) hb)
  clear hb
  go_wp2_with fail
  refine (unhide H2 _).mono ?_
  rintro _ w3 ⟨rfl, hb⟩
  have HB := hide (bthen (unhide HB) hb)
  clear hb
  go_wp2_with fail
  refine (unhide H3 _).mono ?_
  rintro _ w4 ⟨rfl, hb⟩
  have HB := hide (bthen (unhide HB) hb)
  clear hb
  go_wp2_with fail
  refine (unhide H4 _).mono ?_
  rintro _ w5 ⟨rfl, hb⟩
  have HB := hide (bthen (unhide HB) hb)
  clear hb
  go_wp2_with fail
  refine (unhide HK _).mono ?_
  rintro _ w6 ⟨rfl, hb⟩
  have HB := hide (bthen (unhide HB) hb)
  clear hb
  go_wp2_with fail
  refine (unhide HC _).mono ?_
  rintro _ w7 ⟨rfl, hb⟩
  have HB := hide (bthen (unhide HB) hb)
  clear hb
  go_wp2_with fail
  refine (unhide R1 _).mono ?_
  rintro _ w8 ⟨rfl, hb⟩
  have HB := hide (bthen (unhide HB) hb)
  clear hb
  go_wp2_with fail
  refine (unhide R2 _).mono ?_
  rintro _ w9 ⟨rfl, hb⟩
  have HB := hide (bthen (unhide HB) hb)
  clear hb
  go_wp2_with fail
  go_ret
  exact ⟨by simp, unhide HB⟩
end Go.Proofs.Ytjlegmgpgfjciaa
