/- Package sum: the walks of aligned, finite, plus, Add and Sub. -/
import Derived.Test.YtpbgpdmffejdgaaGreatDoorOpen
import Derived.Test.YtpbgpdmffejdgaaGreatDoorTk
namespace Go.Proofs.YtpbgpdmffejdgaaGreatDoor
open Go.RowKit

theorem at2_new2a (w : World) (x y : Value) (t : TypeId) (o : Obj) : At2 w.heap.size x y ((w.alloc (.cells #[x, y] t)).alloc o) := by unfold At2; simp [go_sem]
theorem at2_new2b (w : World) (o : Obj) (x y : Value) (t : TypeId) : At2 (w.heap.size + 1) x y ((w.alloc o).alloc (.cells #[x, y] t)) := by unfold At2; simp [go_sem]
set_option maxRecDepth 100000 in
set_option maxHeartbeats 2000000 in
theorem aligned_same {w ah al bh bl E dh dl V : Int} {an bn : Bool} (W : World) (hn : (an == bn) = true) (HA : Ct 280 #[.agg #[.int .u64 ah, .int .u64 al], .agg #[.int .u64 bh, .int .u64 bl]] (.agg #[.int .u64 dh, .int .u64 dl])) (HP : Ct 160 #[.int .i64 w, .bool an, .agg #[.int .u64 dh, .int .u64 dl], .int .i64 E, .bool false] (.int .u64 V)) :
    Calls Tryz.prog 269 #[.int .i64 w, .bool an, .agg #[.int .u64 ah, .int .u64 al], .bool bn, .agg #[.int .u64 bh, .int .u64 bl], .int .i64 E] W fun r W' => r = .returned (.int .u64 V) ∧ Below W.heap.size W W' := by
  go_enter Tryz.func269, Tryz.ntmps269
  go_wp2_with fail
  have HB := hide (below2 W (.cells #[.int .u64 ah, .int .u64 al] 135) (.cells #[.int .u64 bh, .int .u64 bl] 135))
  have H1 := hide (at2_new2a W (.int .u64 ah) (.int .u64 al) 135 (.cells #[.int .u64 bh, .int .u64 bl] 135))
  have H2 := hide (at2_new2b W (.cells #[.int .u64 ah, .int .u64 al] 135) (.int .u64 bh) (.int .u64 bl) 135)
  refine (unhide HA _).mono ?_
  rintro _ w1 ⟨rfl, hb⟩
  have HB := hide (bthen (unhide HB) hb)
  have H1 := hide ((unhide H1).below hb)
  have H2 := hide ((unhide H2).below hb)
  clear hb
  obtain ⟨c0, c1⟩ := unhide H1
  obtain ⟨d0, d1⟩ := unhide H2
  go_wp2_with fail
  refine (unhide HP _).mono ?_
  rintro _ w2 ⟨rfl, hb⟩
  have HB := hide (bthen (unhide HB) hb)
  have H1 := hide ((unhide H1).below hb)
  have H2 := hide ((unhide H2).below hb)
  clear hb
  obtain ⟨c0, c1⟩ := unhide H1
  obtain ⟨d0, d1⟩ := unhide H2
  go_wp2_with fail
  go_ret
  exact ⟨rfl, unhide HB⟩
set_option maxRecDepth 100000 in
set_option maxHeartbeats 2000000 in
theorem aligned_gt {w ah al bh bl E dh dl V : Int} {an bn : Bool} (W : World) (hn : (an == bn) = false) (HC : Ct 235 #[.agg #[.int .u64 ah, .int .u64 al], .agg #[.int .u64 bh, .int .u64 bl]] (.int .i64 1)) (HA : Ct 281 #[.agg #[.int .u64 ah, .int .u64 al], .agg #[.int .u64 bh, .int .u64 bl]] (.agg #[.int .u64 dh, .int .u64 dl])) (HP : Ct 160 #[.int .i64 w, .bool an, .agg #[.int .u64 dh, .int .u64 dl], .int .i64 E, .bool false] (.int .u64 V)) :
    Calls Tryz.prog 269 #[.int .i64 w, .bool an, .agg #[.int .u64 ah, .int .u64 al], .bool bn, .agg #[.int .u64 bh, .int .u64 bl], .int .i64 E] W fun r W' => r = .returned (.int .u64 V) ∧ Below W.heap.size W W' := by
  go_enter Tryz.func269, Tryz.ntmps269
  go_wp2_with fail
  have HB := hide (below2 W (.cells #[.int .u64 ah, .int .u64 al] 135) (.cells #[.int .u64 bh, .int .u64 bl] 135))
  have H1 := hide (at2_new2a W (.int .u64 ah) (.int .u64 al) 135 (.cells #[.int .u64 bh, .int .u64 bl] 135))
  have H2 := hide (at2_new2b W (.cells #[.int .u64 ah, .int .u64 al] 135) (.int .u64 bh) (.int .u64 bl) 135)
  refine (unhide HC _).mono ?_
  rintro _ w1 ⟨rfl, hb⟩
  have HB := hide (bthen (unhide HB) hb)
  have H1 := hide ((unhide H1).below hb)
  have H2 := hide ((unhide H2).below hb)
  clear hb
  obtain ⟨c0, c1⟩ := unhide H1
  obtain ⟨d0, d1⟩ := unhide H2
  go_wp2_with fail
  refine (unhide HA _).mono ?_
  rintro _ w2 ⟨rfl, hb⟩
  have HB := hide (bthen (unhide HB) hb)
  have H1 := hide ((unhide H1).below hb)
  have H2 := hide ((unhide H2).below hb)
  clear hb
  obtain ⟨c0, c1⟩ := unhide H1
  obtain ⟨d0, d1⟩ := unhide H2
  go_wp2_with fail
  refine (unhide HP _).mono ?_
  rintro _ w3 ⟨rfl, hb⟩
  have HB := hide (bthen (unhide HB) hb)
  have H1 := hide ((unhide H1).below hb)
  have H2 := hide ((unhide H2).below hb)
  clear hb
  obtain ⟨c0, c1⟩ := unhide H1
  obtain ⟨d0, d1⟩ := unhide H2
  go_wp2_with fail
  go_ret
  exact ⟨rfl, unhide HB⟩
set_option maxRecDepth 100000 in
set_option maxHeartbeats 2000000 in
theorem aligned_lt {w ah al bh bl E dh dl V : Int} {an bn : Bool} (W : World) (hn : (an == bn) = false) (HC : Ct 235 #[.agg #[.int .u64 ah, .int .u64 al], .agg #[.int .u64 bh, .int .u64 bl]] (.int .i64 (-1))) (HA : Ct 281 #[.agg #[.int .u64 bh, .int .u64 bl], .agg #[.int .u64 ah, .int .u64 al]] (.agg #[.int .u64 dh, .int .u64 dl])) (HP : Ct 160 #[.int .i64 w, .bool bn, .agg #[.int .u64 dh, .int .u64 dl], .int .i64 E, .bool false] (.int .u64 V)) :
    Calls Tryz.prog 269 #[.int .i64 w, .bool an, .agg #[.int .u64 ah, .int .u64 al], .bool bn, .agg #[.int .u64 bh, .int .u64 bl], .int .i64 E] W fun r W' => r = .returned (.int .u64 V) ∧ Below W.heap.size W W' := by
  go_enter Tryz.func269, Tryz.ntmps269
  go_wp2_with fail
  have HB := hide (below2 W (.cells #[.int .u64 ah, .int .u64 al] 135) (.cells #[.int .u64 bh, .int .u64 bl] 135))
  have H1 := hide (at2_new2a W (.int .u64 ah) (.int .u64 al) 135 (.cells #[.int .u64 bh, .int .u64 bl] 135))
  have H2 := hide (at2_new2b W (.cells #[.int .u64 ah, .int .u64 al] 135) (.int .u64 bh) (.int .u64 bl) 135)
  refine (unhide HC _).mono ?_
  rintro _ w1 ⟨rfl, hb⟩
  have HB := hide (bthen (unhide HB) hb)
  have H1 := hide ((unhide H1).below hb)
  have H2 := hide ((unhide H2).below hb)
  clear hb
  obtain ⟨c0, c1⟩ := unhide H1
  obtain ⟨d0, d1⟩ := unhide H2
  go_wp2_with fail
  refine (unhide HA _).mono ?_
  rintro _ w2 ⟨rfl, hb⟩
  have HB := hide (bthen (unhide HB) hb)
  have H1 := hide ((unhide H1).below hb)
  have H2 := hide ((unhide H2).below hb)
  clear hb
  obtain ⟨c0, c1⟩ := unhide H1
  obtain ⟨d0, d1⟩ := unhide H2
  go_wp2_with fail
  refine (unhide HP _).mono ?_
  rintro _ w3 ⟨rfl, hb⟩
  have HB := hide (bthen (unhide HB) hb)
  have H1 := hide ((unhide H1).below hb)
  have H2 := hide ((unhide H2).below hb)
  clear hb
  obtain ⟨c0, c1⟩ := unhide H1
  obtain ⟨d0, d1⟩ := unhide H2
  go_wp2_with fail
  go_ret
  exact ⟨rfl, unhide HB⟩
set_option maxRecDepth 100000 in
set_option maxHeartbeats 2000000 in
theorem aligned_eq {w ah al bh bl E V : Int} {an bn : Bool} (W : World) (hn : (an == bn) = false) (HC : Ct 235 #[.agg #[.int .u64 ah, .int .u64 al], .agg #[.int .u64 bh, .int .u64 bl]] (.int .i64 0)) (HP : Ct 155 #[.int .i64 w, .bool false] (.int .u64 V)) :
    Calls Tryz.prog 269 #[.int .i64 w, .bool an, .agg #[.int .u64 ah, .int .u64 al], .bool bn, .agg #[.int .u64 bh, .int .u64 bl], .int .i64 E] W fun r W' => r = .returned (.int .u64 V) ∧ Below W.heap.size W W' := by
  go_enter Tryz.func269, Tryz.ntmps269
  go_wp2_with fail
  have HB := hide (below2 W (.cells #[.int .u64 ah, .int .u64 al] 135) (.cells #[.int .u64 bh, .int .u64 bl] 135))
  have H1 := hide (at2_new2a W (.int .u64 ah) (.int .u64 al) 135 (.cells #[.int .u64 bh, .int .u64 bl] 135))
  have H2 := hide (at2_new2b W (.cells #[.int .u64 ah, .int .u64 al] 135) (.int .u64 bh) (.int .u64 bl) 135)
  refine (unhide HC _).mono ?_
  rintro _ w1 ⟨rfl, hb⟩
  have HB := hide (bthen (unhide HB) hb)
  have H1 := hide ((unhide H1).below hb)
  have H2 := hide ((unhide H2).below hb)
  clear hb
  obtain ⟨c0, c1⟩ := unhide H1
  obtain ⟨d0, d1⟩ := unhide H2
  go_wp2_with fail
  refine (unhide HP _).mono ?_
  rintro _ w2 ⟨rfl, hb⟩
  have HB := hide (bthen (unhide HB) hb)
  have H1 := hide ((unhide H1).below hb)
  have H2 := hide ((unhide H2).below hb)
  clear hb
  obtain ⟨c0, c1⟩ := unhide H1
  obtain ⟨d0, d1⟩ := unhide H2
  go_wp2_with fail
  go_ret
  exact ⟨rfl, unhide HB⟩

end Go.Proofs.YtpbgpdmffejdgaaGreatDoor
