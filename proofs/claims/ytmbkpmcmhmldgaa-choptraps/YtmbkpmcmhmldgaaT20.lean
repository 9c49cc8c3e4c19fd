/- LawTn. -/
import Derived.Test.YtmbkpmcmhmldgaaT14
namespace Go.Proofs.Ytmbkpmcmhmldgaa
open Go.RowKit

set_option maxHeartbeats 4000000 in
set_option maxRecDepth 100000 in
theorem traps_nf {w k x : Int} {s : Bool} (W : World) (HA0 : Ct 5 #[] (.bool true)) (H1 : Ct 6 #[.int .i64 w, .int .i64 k, .int .u64 x, .bool s] (.tuple #[.int .u64 0, .int .i64 0])) (H2 : Ct 7 #[.int .i64 w, .int .i64 k, .int .u64 x, .bool s] (.int .u64 0)) (H3 : Ct 8 #[.int .i64 k, .bool s] (.tuple #[.int .u64 0, .int .u64 0])) (HK : Ct 9 #[.int .i64 k] (.bool false)) (HW : Ct 9 #[.int .i64 w] (.bool false)) :
    Calls Try.prog 3 #[.agg #[.int .i64 w, .int .i64 k, .bool s], .int .u64 x] W fun r W' => r = .returned (.bool true) ∧ Below W.heap.size W W' := by
  go_enter Try.func3, Try.ntmps3
  go_wp2_with fail
  have HB := hide (below1 W (.cells #[.int .i64 w, .int .i64 k, .bool s] 23))
  have HA := hide (at3_new W (.int .i64 w) (.int .i64 k) (.bool s) 23)
  refine (unhide HA0 _).mono ?_
  rintro _ w1 ⟨rfl, hb⟩
  have HB := hide (bthen (unhide HB) hb)
  have HA := hide ((unhide HA).below hb)
  clear hb
  obtain ⟨c0, c1, c2⟩ := unhide HA
  go_wp2_with fail
  clear c0 c1 c2
  refine (unhide H1 _).mono ?_
  rintro _ w2 ⟨rfl, hb⟩
  have HB := hide (bthen (unhide HB) hb)
  have HA := hide ((unhide HA).below hb)
  clear hb
  obtain ⟨c0, c1, c2⟩ := unhide HA
  go_wp2_with fail
  clear c0 c1 c2
  refine (unhide H2 _).mono ?_
  rintro _ w3 ⟨rfl, hb⟩
  have HB := hide (bthen (unhide HB) hb)
  have HA := hide ((unhide HA).below hb)
  clear hb
  obtain ⟨c0, c1, c2⟩ := unhide HA
  go_wp2_with fail
  clear c0 c1 c2
  refine (unhide H3 _).mono ?_
  rintro _ w4 ⟨rfl, hb⟩
  have HB := hide (bthen (unhide HB) hb)
  have HA := hide ((unhide HA).below hb)
  clear hb
  obtain ⟨c0, c1, c2⟩ := unhide HA
  go_wp2_with fail
  clear c0 c1 c2
  refine (unhide HK _).mono ?_
  rintro _ w5 ⟨rfl, hb⟩
  have HB := hide (bthen (unhide HB) hb)
  have HA := hide ((unhide HA).below hb)
  clear hb
  obtain ⟨c0, c1, c2⟩ := unhide HA
  go_wp2_with fail
  clear c0 c1 c2
  refine (unhide HW _).mono ?_
  rintro _ w6 ⟨rfl, hb⟩
  have HB := hide (bthen (unhide HB) hb)
  have HA := hide ((unhide HA).below hb)
  clear hb
  obtain ⟨c0, c1, c2⟩ := unhide HA
  go_wp2_with fail
  clear c0 c1 c2
  go_ret
  exact ⟨by simp, unhide HB⟩
set_option maxHeartbeats 4000000 in
set_option maxRecDepth 100000 in
theorem traps_nt {w k x : Int} {s : Bool} (W : World) (HA0 : Ct 5 #[] (.bool true)) (H1 : Ct 6 #[.int .i64 w, .int .i64 k, .int .u64 x, .bool s] (.tuple #[.int .u64 0, .int .i64 0])) (H2 : Ct 7 #[.int .i64 w, .int .i64 k, .int .u64 x, .bool s] (.int .u64 0)) (H3 : Ct 8 #[.int .i64 k, .bool s] (.tuple #[.int .u64 0, .int .u64 0])) (HK : Ct 9 #[.int .i64 k] (.bool false)) (HW : Ct 9 #[.int .i64 w] (.bool true)) :
    Calls Try.prog 3 #[.agg #[.int .i64 w, .int .i64 k, .bool s], .int .u64 x] W fun r W' => r = .returned (.bool true) ∧ Below W.heap.size W W' := by
  go_enter Try.func3, Try.ntmps3
  go_wp2_with fail
  have HB := hide (below1 W (.cells #[.int .i64 w, .int .i64 k, .bool s] 23))
  have HA := hide (at3_new W (.int .i64 w) (.int .i64 k) (.bool s) 23)
  refine (unhide HA0 _).mono ?_
  rintro _ w1 ⟨rfl, hb⟩
  have HB := hide (bthen (unhide HB) hb)
  have HA := hide ((unhide HA).below hb)
  clear hb
  obtain ⟨c0, c1, c2⟩ := unhide HA
  go_wp2_with fail
  clear c0 c1 c2
  refine (unhide H1 _).mono ?_
  rintro _ w2 ⟨rfl, hb⟩
  have HB := hide (bthen (unhide HB) hb)
  have HA := hide ((unhide HA).below hb)
  clear hb
  obtain ⟨c0, c1, c2⟩ := unhide HA
  go_wp2_with fail
  clear c0 c1 c2
  refine (unhide H2 _).mono ?_
  rintro _ w3 ⟨rfl, hb⟩
  have HB := hide (bthen (unhide HB) hb)
  have HA := hide ((unhide HA).below hb)
  clear hb
  obtain ⟨c0, c1, c2⟩ := unhide HA
  go_wp2_with fail
  clear c0 c1 c2
  refine (unhide H3 _).mono ?_
  rintro _ w4 ⟨rfl, hb⟩
  have HB := hide (bthen (unhide HB) hb)
  have HA := hide ((unhide HA).below hb)
  clear hb
  obtain ⟨c0, c1, c2⟩ := unhide HA
  go_wp2_with fail
  clear c0 c1 c2
  refine (unhide HK _).mono ?_
  rintro _ w5 ⟨rfl, hb⟩
  have HB := hide (bthen (unhide HB) hb)
  have HA := hide ((unhide HA).below hb)
  clear hb
  obtain ⟨c0, c1, c2⟩ := unhide HA
  go_wp2_with fail
  clear c0 c1 c2
  refine (unhide HW _).mono ?_
  rintro _ w6 ⟨rfl, hb⟩
  have HB := hide (bthen (unhide HB) hb)
  have HA := hide ((unhide HA).below hb)
  clear hb
  obtain ⟨c0, c1, c2⟩ := unhide HA
  go_wp2_with fail
  clear c0 c1 c2
  refine (unhide HK _).mono ?_
  rintro _ w7 ⟨rfl, hb⟩
  have HB := hide (bthen (unhide HB) hb)
  have HA := hide ((unhide HA).below hb)
  clear hb
  obtain ⟨c0, c1, c2⟩ := unhide HA
  go_wp2_with fail
  clear c0 c1 c2
  go_ret
  exact ⟨by simp, unhide HB⟩
set_option maxHeartbeats 4000000 in
set_option maxRecDepth 100000 in
theorem traps_wf {w k x h : Int} (W : World) (HA0 : Ct 5 #[] (.bool true)) (H1 : Ct 6 #[.int .i64 w, .int .i64 k, .int .u64 x, .bool false] (.tuple #[.int .u64 0, .int .i64 0])) (H2 : Ct 7 #[.int .i64 w, .int .i64 k, .int .u64 x, .bool false] (.int .u64 0)) (H3 : Ct 8 #[.int .i64 k, .bool false] (.tuple #[.int .u64 0, .int .u64 h])) (HK : Ct 9 #[.int .i64 k] (.bool true)) (HL : Ct 10 #[.int .i64 k, .bool false] (.int .u64 0)) (HH : Ct 11 #[.int .i64 k, .bool false] (.int .u64 h)) (HW : Ct 9 #[.int .i64 w] (.bool false)) :
    Calls Try.prog 3 #[.agg #[.int .i64 w, .int .i64 k, .bool false], .int .u64 x] W fun r W' => r = .returned (.bool true) ∧ Below W.heap.size W W' := by
  go_enter Try.func3, Try.ntmps3
  go_wp2_with fail
  have HB := hide (below1 W (.cells #[.int .i64 w, .int .i64 k, .bool false] 23))
  have HA := hide (at3_new W (.int .i64 w) (.int .i64 k) (.bool false) 23)
  refine (unhide HA0 _).mono ?_
  rintro _ w1 ⟨rfl, hb⟩
  have HB := hide (bthen (unhide HB) hb)
  have HA := hide ((unhide HA).below hb)
  clear hb
  obtain ⟨c0, c1, c2⟩ := unhide HA
  go_wp2_with fail
  clear c0 c1 c2
  refine (unhide H1 _).mono ?_
  rintro _ w2 ⟨rfl, hb⟩
  have HB := hide (bthen (unhide HB) hb)
  have HA := hide ((unhide HA).below hb)
  clear hb
  obtain ⟨c0, c1, c2⟩ := unhide HA
  go_wp2_with fail
  clear c0 c1 c2
  refine (unhide H2 _).mono ?_
  rintro _ w3 ⟨rfl, hb⟩
  have HB := hide (bthen (unhide HB) hb)
  have HA := hide ((unhide HA).below hb)
  clear hb
  obtain ⟨c0, c1, c2⟩ := unhide HA
  go_wp2_with fail
  clear c0 c1 c2
  refine (unhide H3 _).mono ?_
  rintro _ w4 ⟨rfl, hb⟩
  have HB := hide (bthen (unhide HB) hb)
  have HA := hide ((unhide HA).below hb)
  clear hb
  obtain ⟨c0, c1, c2⟩ := unhide HA
  go_wp2_with fail
  clear c0 c1 c2
  refine (unhide HK _).mono ?_
  rintro _ w5 ⟨rfl, hb⟩
  have HB := hide (bthen (unhide HB) hb)
  have HA := hide ((unhide HA).below hb)
  clear hb
  obtain ⟨c0, c1, c2⟩ := unhide HA
  go_wp2_with fail
  clear c0 c1 c2
  refine (unhide HL _).mono ?_
  rintro _ w6 ⟨rfl, hb⟩
  have HB := hide (bthen (unhide HB) hb)
  have HA := hide ((unhide HA).below hb)
  clear hb
  obtain ⟨c0, c1, c2⟩ := unhide HA
  go_wp2_with fail
  clear c0 c1 c2
  refine (unhide HH _).mono ?_
  rintro _ w7 ⟨rfl, hb⟩
  have HB := hide (bthen (unhide HB) hb)
  have HA := hide ((unhide HA).below hb)
  clear hb
  obtain ⟨c0, c1, c2⟩ := unhide HA
  go_wp2_with fail
  clear c0 c1 c2
  refine (unhide HW _).mono ?_
  rintro _ w8 ⟨rfl, hb⟩
  have HB := hide (bthen (unhide HB) hb)
  have HA := hide ((unhide HA).below hb)
  clear hb
  obtain ⟨c0, c1, c2⟩ := unhide HA
  go_wp2_with fail
  clear c0 c1 c2
  go_ret
  exact ⟨by simp, unhide HB⟩
set_option maxHeartbeats 4000000 in
set_option maxRecDepth 100000 in
theorem traps_wt {w k x L h : Int} (W : World) (HA0 : Ct 5 #[] (.bool true)) (H1 : Ct 6 #[.int .i64 w, .int .i64 k, .int .u64 x, .bool true] (.tuple #[.int .u64 0, .int .i64 0])) (H2 : Ct 7 #[.int .i64 w, .int .i64 k, .int .u64 x, .bool true] (.int .u64 0)) (H3 : Ct 8 #[.int .i64 k, .bool true] (.tuple #[.int .u64 L, .int .u64 h])) (HK : Ct 9 #[.int .i64 k] (.bool true)) (HL : Ct 10 #[.int .i64 k, .bool true] (.int .u64 L)) (HH : Ct 11 #[.int .i64 k, .bool true] (.int .u64 h)) (HW : Ct 9 #[.int .i64 w] (.bool false)) :
    Calls Try.prog 3 #[.agg #[.int .i64 w, .int .i64 k, .bool true], .int .u64 x] W fun r W' => r = .returned (.bool true) ∧ Below W.heap.size W W' := by
  go_enter Try.func3, Try.ntmps3
  go_wp2_with fail
  have HB := hide (below1 W (.cells #[.int .i64 w, .int .i64 k, .bool true] 23))
  have HA := hide (at3_new W (.int .i64 w) (.int .i64 k) (.bool true) 23)
  refine (unhide HA0 _).mono ?_
  rintro _ w1 ⟨rfl, hb⟩
  have HB := hide (bthen (unhide HB) hb)
  have HA := hide ((unhide HA).below hb)
  clear hb
  obtain ⟨c0, c1, c2⟩ := unhide HA
  go_wp2_with fail
  clear c0 c1 c2
  refine (unhide H1 _).mono ?_
  rintro _ w2 ⟨rfl, hb⟩
  have HB := hide (bthen (unhide HB) hb)
  have HA := hide ((unhide HA).below hb)
  clear hb
  obtain ⟨c0, c1, c2⟩ := unhide HA
  go_wp2_with fail
  clear c0 c1 c2
  refine (unhide H2 _).mono ?_
  rintro _ w3 ⟨rfl, hb⟩
  have HB := hide (bthen (unhide HB) hb)
  have HA := hide ((unhide HA).below hb)
  clear hb
  obtain ⟨c0, c1, c2⟩ := unhide HA
  go_wp2_with fail
  clear c0 c1 c2
  refine (unhide H3 _).mono ?_
  rintro _ w4 ⟨rfl, hb⟩
  have HB := hide (bthen (unhide HB) hb)
  have HA := hide ((unhide HA).below hb)
  clear hb
  obtain ⟨c0, c1, c2⟩ := unhide HA
  go_wp2_with fail
  clear c0 c1 c2
  refine (unhide HK _).mono ?_
  rintro _ w5 ⟨rfl, hb⟩
  have HB := hide (bthen (unhide HB) hb)
  have HA := hide ((unhide HA).below hb)
  clear hb
  obtain ⟨c0, c1, c2⟩ := unhide HA
  go_wp2_with fail
  clear c0 c1 c2
  refine (unhide HL _).mono ?_
  rintro _ w6 ⟨rfl, hb⟩
  have HB := hide (bthen (unhide HB) hb)
  have HA := hide ((unhide HA).below hb)
  clear hb
  obtain ⟨c0, c1, c2⟩ := unhide HA
  go_wp2_with fail
  clear c0 c1 c2
  refine (unhide HH _).mono ?_
  rintro _ w7 ⟨rfl, hb⟩
  have HB := hide (bthen (unhide HB) hb)
  have HA := hide ((unhide HA).below hb)
  clear hb
  obtain ⟨c0, c1, c2⟩ := unhide HA
  go_wp2_with fail
  clear c0 c1 c2
  refine (unhide HW _).mono ?_
  rintro _ w8 ⟨rfl, hb⟩
  have HB := hide (bthen (unhide HB) hb)
  have HA := hide ((unhide HA).below hb)
  clear hb
  obtain ⟨c0, c1, c2⟩ := unhide HA
  go_wp2_with fail
  clear c0 c1 c2
  go_ret
  exact ⟨by simp, unhide HB⟩
end Go.Proofs.Ytmbkpmcmhmldgaa
