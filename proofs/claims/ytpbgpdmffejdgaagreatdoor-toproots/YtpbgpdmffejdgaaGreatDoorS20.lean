/- PlusA, NuD. -/
import Derived.Test.YtpbgpdmffejdgaaGreatDoorS01
namespace Go.Proofs.YtpbgpdmffejdgaaGreatDoor
open Go.RowKit

theorem at2_new2a (w : World) (x y : Value) (t : TypeId) (o : Obj) : At2 w.heap.size x y ((w.alloc (.cells #[x, y] t)).alloc o) := by unfold At2; simp [go_sem]
theorem at2_new2b (w : World) (o : Obj) (x y : Value) (t : TypeId) : At2 (w.heap.size + 1) x y ((w.alloc o).alloc (.cells #[x, y] t)) := by unfold At2; simp [go_sem]
set_option maxRecDepth 100000 in
set_option maxHeartbeats 2000000 in
theorem aligned_same {w ah al bh bl E dh dl V : Int} {an bn : Bool} (W : World) (hn : (an == bn) = true) (HA : Ct 280 #[.agg #[.int .u64 ah, .int .u64 al], .agg #[.int .u64 bh, .int .u64 bl]] (.agg #[.int .u64 dh, .int .u64 dl])) (HP : Ct 160 #[.int .i64 w, .bool an, .agg #[.int .u64 dh, .int .u64 dl], .int .i64 E, .bool false] (.int .u64 V)) :
    Calls Tryz.prog 269 #[.int .i64 w, .bool an, .agg #[.int .u64 ah, .int .u64 al], .bool bn, .agg #[.int .u64 bh, .int .u64 bl], .int .i64 E] W fun r W' => r = .returned (.int .u64 V) ∧ Below W.heap.size W W' := by
  go_enter Tryz.func269, Tryz.ntmps269
  go_wp2_with fail
  have HB := hide (below2 W (.cells #[.int .u64 ah, .int .u64 al] 135) (.cells #[.int .u64 bh, .int .u64 bl] 135))
  have H1 := hide (at2_new2a W (.int .u64 ah) (.int .u64 al) 135 (.cells #[.int .u64 bh, .int .u64 bl] 135))
  have H2 := hide (at2_new2b W (.cells #[.int .u64 ah, .int .u64 al] 135) (.int .u64 bh) (.int .u64 bl) 135)
  refine (unhide HA _).mono ?_
  rintro _ w1 ⟨rfl, hb⟩
  have HB := hide (bthen (unhide HB) hb)
  have H1 := hide ((unhide H1).below hb)
  have H2 := hide ((unhide H2).below hb)
  clear hb
  obtain ⟨c0, c1⟩ := unhide H1
  obtain ⟨d0, d1⟩ := unhide H2
  go_wp2_with fail
  refine (unhide HP _).mono ?_
  rintro _ w2 ⟨rfl, hb⟩
  have HB := hide (bthen (unhide HB) hb)
  have H1 := hide ((unhide H1).below hb)
  have H2 := hide ((unhide H2).below hb)
  clear hb
  obtain ⟨c0, c1⟩ := unhide H1
  obtain ⟨d0, d1⟩ := unhide H2
  go_wp2_with fail
  go_ret
  exact ⟨rfl, unhide HB⟩
set_option maxRecDepth 100000 in
set_option maxHeartbeats 2000000 in
theorem aligned_gt {w ah al bh bl E dh dl V : Int} {an bn : Bool} (W : World) (hn : (an == bn) = false) (HC : Ct 235 #[.agg #[.int .u64 ah, .int .u64 al], .agg #[.int .u64 bh, .int .u64 bl]] (.int .i64 1)) (HA : Ct 281 #[.agg #[.int .u64 ah, .int .u64 al], .agg #[.int .u64 bh, .int .u64 bl]] (.agg #[.int .u64 dh, .int .u64 dl])) (HP : Ct 160 #[.int .i64 w, .bool an, .agg #[.int .u64 dh, .int .u64 dl], .int .i64 E, .bool false] (.int .u64 V)) :
    Calls Tryz.prog 269 #[.int .i64 w, .bool an, .agg #[.int .u64 ah, .int .u64 al], .bool bn, .agg #[.int .u64 bh, .int .u64 bl], .int .i64 E] W fun r W' => r = .returned (.int .u64 V) ∧ Below W.heap.size W W' := by
  go_enter Tryz.func269, Tryz.ntmps269
  go_wp2_with fail
  have HB := hide (below2 W (.cells #[.int .u64 ah, .int .u64 al] 135) (.cells #[.int .u64 bh, .int .u64 bl] 135))
  have H1 := hide (at2_new2a W (.int .u64 ah) (.int .u64 al) 135 (.cells #[.int .u64 bh, .int .u64 bl] 135))
  have H2 := hide (at2_new2b W (.cells #[.int .u64 ah, .int .u64 al] 135) (.int .u64 bh) (.int .u64 bl) 135)
  refine (unhide HC _).mono ?_
  rintro _ w1 ⟨rfl, hb⟩
  have HB := hide (bthen (unhide HB) hb)
  have H1 := hide ((unhide H1).below hb)
  have H2 := hide ((unhide H2).below hb)
  clear hb
  obtain ⟨c0, c1⟩ := unhide H1
  obtain ⟨d0, d1⟩ := unhide H2
  go_wp2_with fail
  refine (unhide HA _).mono ?_
  rintro _ w2 ⟨rfl, hb⟩
  have HB := hide (bthen (unhide HB) hb)
  have H1 := hide ((unhide H1).below hb)
  have H2 := hide ((unhide H2).below hb)
  clear hb
  obtain ⟨c0, c1⟩ := unhide H1
  obtain ⟨d0, d1⟩ := unhide H2
  go_wp2_with fail
  refine (unhide HP _).mono ?_
  rintro _ w3 ⟨rfl, hb⟩
  have HB := hide (bthen (unhide HB) hb)
  have H1 := hide ((unhide H1).below hb)
  have H2 := hide ((unhide H2).below hb)
  clear hb
  obtain ⟨c0, c1⟩ := unhide H1
  obtain ⟨d0, d1⟩ := unhide H2
  go_wp2_with fail
  go_ret
  exact ⟨rfl, unhide HB⟩
set_option maxRecDepth 100000 in
set_option maxHeartbeats 2000000 in
theorem aligned_lt {w ah al bh bl E dh dl V : Int} {an bn : Bool} (W : World) (hn : (an == bn) = false) (HC : Ct 235 #[.agg #[.int .u64 ah, .int .u64 al], .agg #[.int .u64 bh, .int .u64 bl]] (.int .i64 (-1))) (HA : Ct 281 #[.agg #[.int .u64 bh, .int .u64 bl], .agg #[.int .u64 ah, .int .u64 al]] (.agg #[.int .u64 dh, .int .u64 dl])) (HP : Ct 160 #[.int .i64 w, .bool bn, .agg #[.int .u64 dh, .int .u64 dl], .int .i64 E, .bool false] (.int .u64 V)) :
    Calls Tryz.prog 269 #[.int .i64 w, .bool an, .agg #[.int .u64 ah, .int .u64 al], .bool bn, .agg #[.int .u64 bh, .int .u64 bl], .int .i64 E] W fun r W' => r = .returned (.int .u64 V) ∧ Below W.heap.size W W' := by
  go_enter Tryz.func269, Tryz.ntmps269
  go_wp2_with fail
  have HB := hide (below2 W (.cells #[.int .u64 ah, .int .u64 al] 135) (.cells #[.int .u64 bh, .int .u64 bl] 135))
  have H1 := hide (at2_new2a W (.int .u64 ah) (.int .u64 al) 135 (.cells #[.int .u64 bh, .int .u64 bl] 135))
  have H2 := hide (at2_new2b W (.cells #[.int .u64 ah, .int .u64 al] 135) (.int .u64 bh) (.int .u64 bl) 135)
  refine (unhide HC _).mono ?_
  rintro _ w1 ⟨rfl, hb⟩
  have HB := hide (bthen (unhide HB) hb)
  have H1 := hide ((unhide H1).below hb)
  have H2 := hide ((unhide H2).below hb)
  clear hb
  obtain ⟨c0, c1⟩ := unhide H1
  obtain ⟨d0, d1⟩ := unhide H2
  go_wp2_with fail
  refine (unhide HA _).mono ?_
  rintro _ w2 ⟨rfl, hb⟩
  have HB := hide (bthen (unhide HB) hb)
  have H1 := hide ((unhide H1).below hb)
  have H2 := hide ((unhide H2).below hb)
  clear hb
  obtain ⟨c0, c1⟩ := unhide H1
  obtain ⟨d0, d1⟩ := unhide H2
  go_wp2_with fail
  refine (unhide HP _).mono ?_
  rintro _ w3 ⟨rfl, hb⟩
  have HB := hide (bthen (unhide HB) hb)
  have H1 := hide ((unhide H1).below hb)
  have H2 := hide ((unhide H2).below hb)
  clear hb
  obtain ⟨c0, c1⟩ := unhide H1
  obtain ⟨d0, d1⟩ := unhide H2
  go_wp2_with fail
  go_ret
  exact ⟨rfl, unhide HB⟩
set_option maxRecDepth 100000 in
set_option maxHeartbeats 2000000 in
theorem aligned_eq {w ah al bh bl E V : Int} {an bn : Bool} (W : World) (hn : (an == bn) = false) (HC : Ct 235 #[.agg #[.int .u64 ah, .int .u64 al], .agg #[.int .u64 bh, .int .u64 bl]] (.int .i64 0)) (HP : Ct 155 #[.int .i64 w, .bool false] (.int .u64 V)) :
    Calls Tryz.prog 269 #[.int .i64 w, .bool an, .agg #[.int .u64 ah, .int .u64 al], .bool bn, .agg #[.int .u64 bh, .int .u64 bl], .int .i64 E] W fun r W' => r = .returned (.int .u64 V) ∧ Below W.heap.size W W' := by
  go_enter Tryz.func269, Tryz.ntmps269
  go_wp2_with fail
  have HB := hide (below2 W (.cells #[.int .u64 ah, .int .u64 al] 135) (.cells #[.int .u64 bh, .int .u64 bl] 135))
  have H1 := hide (at2_new2a W (.int .u64 ah) (.int .u64 al) 135 (.cells #[.int .u64 bh, .int .u64 bl] 135))
  have H2 := hide (at2_new2b W (.cells #[.int .u64 ah, .int .u64 al] 135) (.int .u64 bh) (.int .u64 bl) 135)
  refine (unhide HC _).mono ?_
  rintro _ w1 ⟨rfl, hb⟩
  have HB := hide (bthen (unhide HB) hb)
  have H1 := hide ((unhide H1).below hb)
  have H2 := hide ((unhide H2).below hb)
  clear hb
  obtain ⟨c0, c1⟩ := unhide H1
  obtain ⟨d0, d1⟩ := unhide H2
  go_wp2_with fail
  refine (unhide HP _).mono ?_
  rintro _ w2 ⟨rfl, hb⟩
  have HB := hide (bthen (unhide HB) hb)
  have H1 := hide ((unhide H1).below hb)
  have H2 := hide ((unhide H2).below hb)
  clear hb
  obtain ⟨c0, c1⟩ := unhide H1
  obtain ⟨d0, d1⟩ := unhide H2
  go_wp2_with fail
  go_ret
  exact ⟨rfl, unhide HB⟩

end Go.Proofs.YtpbgpdmffejdgaaGreatDoor
namespace Go.Proofs.YtpbgpdmffejdgaaGreatDoor
open Go.RowKit

set_option maxHeartbeats 4000000 in
set_option maxRecDepth 100000 in
theorem chg_t {k f to a r t : Int} (HQ : 
    (k = 1 ∧ Cm 92 #[.int .i64 f, .int .i64 to, .int .u64 a, .bool true] (.tuple #[.int .u64 r, .int .i64 t])) ∨
    (k = 3 ∧ Cm 92 #[.int .i64 f, .int .i64 to, .int .u64 a, .bool true] (.tuple #[.int .u64 r, .int .i64 t])) ∨
    (k = 7 ∧ Cm 92 #[.int .i64 f, .int .i64 to, .int .u64 a, .bool true] (.tuple #[.int .u64 r, .int .i64 t])) ∨
    (k = 9 ∧ Cm 92 #[.int .i64 f, .int .i64 to, .int .u64 a, .bool true] (.tuple #[.int .u64 r, .int .i64 t])) ∨
    (k = 2 ∧ Cm 92 #[.int .i64 f, .int .i64 to, .int .u64 a, .bool false] (.tuple #[.int .u64 r, .int .i64 t])) ∨
    (k = 4 ∧ Cm 92 #[.int .i64 f, .int .i64 to, .int .u64 a, .bool false] (.tuple #[.int .u64 r, .int .i64 t])) ∨
    (k = 8 ∧ Cm 92 #[.int .i64 f, .int .i64 to, .int .u64 a, .bool false] (.tuple #[.int .u64 r, .int .i64 t])) ∨
    (k = 10 ∧ Cm 92 #[.int .i64 f, .int .i64 to, .int .u64 a, .bool false] (.tuple #[.int .u64 r, .int .i64 t]))) :
    Cm 39 #[.int .i64 k, .int .i64 f, .int .i64 to, .int .u64 a] (.tuple #[.int .u64 r, .int .i64 t]) := by
  refine hide (fun W m => ?_)
  have HM := hide m
  clear m
  rcases HQ with ⟨rfl, HC⟩ | ⟨rfl, HC⟩ | ⟨rfl, HC⟩ | ⟨rfl, HC⟩ | ⟨rfl, HC⟩ | ⟨rfl, HC⟩ | ⟨rfl, HC⟩ | ⟨rfl, HC⟩
  all_goals
    have HB := hide (Below.refl W.heap.size W)
    go_enter Tryz.func39, Tryz.ntmps39
    go_wp2_with fail
    refine (unhide HC _ (unhide HM)).mono ?_
    rintro _ w1 ⟨rfl, hb⟩
    have HB := hide (bthen (unhide HB) hb)
    clear hb
    go_wp2_with fail
    go_ret2
    exact ⟨rfl, unhide HB⟩
set_option maxHeartbeats 4000000 in
set_option maxRecDepth 100000 in
theorem chg_o {k f to a r : Int} (HQ : 
    (k = 11 ∧ Cm 93 #[.int .i64 to, .int .i64 f, .int .u64 a] (.int .u64 r)) ∨
    (k = 13 ∧ Cm 93 #[.int .i64 to, .int .i64 f, .int .u64 a] (.int .u64 r)) ∨
    (k = 16 ∧ Cm 93 #[.int .i64 to, .int .i64 f, .int .u64 a] (.int .u64 r)) ∨
    (k = 18 ∧ Cm 93 #[.int .i64 to, .int .i64 f, .int .u64 a] (.int .u64 r)) ∨
    (k = 12 ∧ Cm 94 #[.int .i64 to, .int .i64 f, .int .u64 a] (.int .u64 r)) ∨
    (k = 14 ∧ Cm 94 #[.int .i64 to, .int .i64 f, .int .u64 a] (.int .u64 r)) ∨
    (k = 17 ∧ Cm 94 #[.int .i64 to, .int .i64 f, .int .u64 a] (.int .u64 r)) ∨
    (k = 19 ∧ Cm 94 #[.int .i64 to, .int .i64 f, .int .u64 a] (.int .u64 r)) ∨
    (k = 15 ∧ Cm 95 #[.int .u64 a] (.int .u64 r)) ∨
    (k = 20 ∧ Cm 96 #[.int .u64 a] (.int .u64 r)) ∨
    (k = 5 ∧ Cm 97 #[.int .i64 to, .int .i64 f, .int .u64 a, .bool true] (.int .u64 r)) ∨
    (k = 0 ∧ Cm 17 #[.int .i64 to, .int .u64 a] (.int .u64 r)) ∨
    (k = 6 ∧ Cm 17 #[.int .i64 to, .int .u64 a] (.int .u64 r)) ∨
    (k = 21 ∧ Cm 17 #[.int .i64 to, .int .u64 a] (.int .u64 r)) ∨
    (k = 22 ∧ Cm 17 #[.int .i64 to, .int .u64 a] (.int .u64 r)) ∨
    (k = 23 ∧ Cm 17 #[.int .i64 to, .int .u64 a] (.int .u64 r)) ∨
    (k = 24 ∧ Cm 17 #[.int .i64 to, .int .u64 a] (.int .u64 r))) :
    Cm 39 #[.int .i64 k, .int .i64 f, .int .i64 to, .int .u64 a] (.tuple #[.int .u64 r, .int .i64 0]) := by
  refine hide (fun W m => ?_)
  have HM := hide m
  clear m
  rcases HQ with ⟨rfl, HC⟩ | ⟨rfl, HC⟩ | ⟨rfl, HC⟩ | ⟨rfl, HC⟩ | ⟨rfl, HC⟩ | ⟨rfl, HC⟩ | ⟨rfl, HC⟩ | ⟨rfl, HC⟩ | ⟨rfl, HC⟩ | ⟨rfl, HC⟩ | ⟨rfl, HC⟩ | ⟨rfl, HC⟩ | ⟨rfl, HC⟩ | ⟨rfl, HC⟩ | ⟨rfl, HC⟩ | ⟨rfl, HC⟩ | ⟨rfl, HC⟩
  all_goals
    have HB := hide (Below.refl W.heap.size W)
    go_enter Tryz.func39, Tryz.ntmps39
    go_wp2_with fail
    refine (unhide HC _ (unhide HM)).mono ?_
    rintro _ w1 ⟨rfl, hb⟩
    have HB := hide (bthen (unhide HB) hb)
    clear hb
    go_wp2_with fail
    go_ret2
    exact ⟨rfl, unhide HB⟩
set_option maxHeartbeats 4000000 in
set_option maxRecDepth 100000 in
theorem stop_w {k f to a r : Int} (HQ : 
    (k = 0 ∧ Cm 98 #[.int .i64 f, .int .i64 to, .int .u64 a, .bool true] (.int .u64 r)) ∨
    (k = 2 ∧ Cm 98 #[.int .i64 f, .int .i64 to, .int .u64 a, .bool true] (.int .u64 r)) ∨
    (k = 4 ∧ Cm 98 #[.int .i64 f, .int .i64 to, .int .u64 a, .bool true] (.int .u64 r)) ∨
    (k = 6 ∧ Cm 98 #[.int .i64 f, .int .i64 to, .int .u64 a, .bool true] (.int .u64 r)) ∨
    (k = 1 ∧ Cm 98 #[.int .i64 f, .int .i64 to, .int .u64 a, .bool false] (.int .u64 r)) ∨
    (k = 3 ∧ Cm 98 #[.int .i64 f, .int .i64 to, .int .u64 a, .bool false] (.int .u64 r)) ∨
    (k = 5 ∧ Cm 98 #[.int .i64 f, .int .i64 to, .int .u64 a, .bool false] (.int .u64 r)) ∨
    (k = 7 ∧ Cm 98 #[.int .i64 f, .int .i64 to, .int .u64 a, .bool false] (.int .u64 r))) :
    Cm 40 #[.int .i64 k, .int .i64 f, .int .i64 to, .int .u64 a] (.int .u64 r) := by
  refine hide (fun W m => ?_)
  have HM := hide m
  clear m
  rcases HQ with ⟨rfl, HC⟩ | ⟨rfl, HC⟩ | ⟨rfl, HC⟩ | ⟨rfl, HC⟩ | ⟨rfl, HC⟩ | ⟨rfl, HC⟩ | ⟨rfl, HC⟩ | ⟨rfl, HC⟩
  all_goals
    have HB := hide (Below.refl W.heap.size W)
    go_enter Tryz.func40, Tryz.ntmps40
    go_wp2_with fail
    refine (unhide HC _ (unhide HM)).mono ?_
    rintro _ w1 ⟨rfl, hb⟩
    have HB := hide (bthen (unhide HB) hb)
    clear hb
    go_wp2_with fail
    go_ret
    exact ⟨rfl, unhide HB⟩
end Go.Proofs.YtpbgpdmffejdgaaGreatDoor
