/- LawT. -/
import Derived.Test.YtpbgpdmffejdgaaGreatDoorS25
import Derived.Test.YtpbgpdmffejdgaaGreatDoorS41
import Derived.Test.YtpbgpdmffejdgaaGreatDoorS43
namespace Go.Proofs.YtpbgpdmffejdgaaGreatDoor
open Go.RowKit

set_option maxHeartbeats 4000000 in
set_option maxRecDepth 100000 in
theorem troots_n {w a : Int} (H0 : Ap 145 1082130432 0 1073741824 0) (n1 : (w != 32) = true) (n2 : (w != 64) = true) : Cm 8 #[.int .i64 w, .int .u64 a] (.bool true) := by
  refine hide (fun W m => ?_)
  have HM := hide m
  clear m
  have HB := hide (Below.refl W.heap.size W)
  go_enter Tryz.func8, Tryz.ntmps8
  go_wp2_with fail
  refine (unhide H0 _ (unhide HM)).mono ?_
  rintro _ w1 ⟨rfl, hb⟩
  have HB := hide (bthen (unhide HB) hb)
  have HM := hide ((unhide HM).below hb)
  clear hb
  go_wp2_with fail
  go_ret
  exact ⟨rfl, unhide HB⟩
set_option maxHeartbeats 4000000 in
set_option maxRecDepth 100000 in
theorem troots_o32 {a K0 X0 S0 : Int} {n0 : Bool} (H0 : Ap 145 1082130432 0 1073741824 0) (HO : Ct 15 #[.int .i64 32, .int .u64 a] (.agg #[.bool n0, .int .i64 K0, .int .i64 X0, .int .u64 S0])) (h : ¬ K0 = 1 ∨ K0 = 1 ∧ n0 = true) : Cm 8 #[.int .i64 32, .int .u64 a] (.bool true) := by
  refine hide (fun W m => ?_)
  have HM := hide m
  clear m
  have HB := hide (Below.refl W.heap.size W)
  go_enter Tryz.func8, Tryz.ntmps8
  go_wp2_with fail
  refine (unhide H0 _ (unhide HM)).mono ?_
  rintro _ w1 ⟨rfl, hb⟩
  have HB := hide (bthen (unhide HB) hb)
  have HM := hide ((unhide HM).below hb)
  clear hb
  go_wp2_with fail
  refine (unhide HO _).mono ?_
  rintro _ w2 ⟨rfl, hb⟩
  have HB := hide (bthen (unhide HB) hb)
  clear hb
  skip
  have HZ := hide (balloc (unhide HB) (.cells #[.bool n0, .int .i64 K0, .int .i64 X0, .int .u64 S0] 37))
  rcases h with h | ⟨rfl, rfl⟩
  all_goals
    go_wp2_with fail
    go_ret
    exact ⟨rfl, unhide HZ⟩
set_option maxHeartbeats 4000000 in
set_option maxRecDepth 100000 in
theorem troots_o64 {a K0 X0 S0 : Int} {n0 : Bool} (H0 : Ap 145 1082130432 0 1073741824 0) (HO : Ct 15 #[.int .i64 64, .int .u64 a] (.agg #[.bool n0, .int .i64 K0, .int .i64 X0, .int .u64 S0])) (h : ¬ K0 = 1 ∨ K0 = 1 ∧ n0 = true) : Cm 8 #[.int .i64 64, .int .u64 a] (.bool true) := by
  refine hide (fun W m => ?_)
  have HM := hide m
  clear m
  have HB := hide (Below.refl W.heap.size W)
  go_enter Tryz.func8, Tryz.ntmps8
  go_wp2_with fail
  refine (unhide H0 _ (unhide HM)).mono ?_
  rintro _ w1 ⟨rfl, hb⟩
  have HB := hide (bthen (unhide HB) hb)
  have HM := hide ((unhide HM).below hb)
  clear hb
  go_wp2_with fail
  refine (unhide HO _).mono ?_
  rintro _ w2 ⟨rfl, hb⟩
  have HB := hide (bthen (unhide HB) hb)
  clear hb
  skip
  have HZ := hide (balloc (unhide HB) (.cells #[.bool n0, .int .i64 K0, .int .i64 X0, .int .u64 S0] 37))
  rcases h with h | ⟨rfl, rfl⟩
  all_goals
    go_wp2_with fail
    go_ret
    exact ⟨rfl, unhide HZ⟩
set_option maxHeartbeats 4000000 in
set_option maxRecDepth 100000 in
theorem troots_f32 {a X0 S0 v X1 S1 p2 pm pp p4 pq x1 x2 u d1 d2 : Int} (H0 : Ap 145 1082130432 0 1073741824 0) (HO : Ct 15 #[.int .i64 32, .int .u64 a] (.agg #[.bool false, .int .i64 1, .int .i64 X0, .int .u64 S0])) (H1 : Ap 145 a 0 v 0) (HP : Ct 15 #[.int .i64 32, .int .u64 v] (.agg #[.bool false, .int .i64 1, .int .i64 X1, .int .u64 S1])) (HF : Ct 23 #[.int .i64 32] (.tuple #[.int .i64 8, .int .i64 23]))
    (e1 : IntKind.u64.wrap (2 * S1) = p2) (e2 : IntKind.u64.wrap (p2 - 1) = pm) (e3 : IntKind.u64.wrap (p2 + 1) = pp) (e4 : IntKind.u64.wrap (4 * S1) = p4) (e5 : IntKind.u64.wrap (p4 - 1) = pq) (e6 : IntKind.i64.wrap (X1 - 1) = x1) (e7 : IntKind.i64.wrap (X1 - 2) = x2)
    (HU : Hid (∀ b W, At4 b (.bool false) (.int .i64 1) (.int .i64 X0) (.int .u64 S0) W → Calls Tryz.prog 19 #[.int .u64 pp, .int .i64 x1, .pointer (some ⟨b, 0, none⟩)] W fun r W' => r = .returned (.int .i64 u) ∧ Below W.heap.size W W')) (HD : Hid (∀ b W, At4 b (.bool false) (.int .i64 1) (.int .i64 X0) (.int .u64 S0) W → Calls Tryz.prog 19 #[.int .u64 pm, .int .i64 x1, .pointer (some ⟨b, 0, none⟩)] W fun r W' => r = .returned (.int .i64 d1) ∧ Below W.heap.size W W')) (HE : (S1 == 8388608) = true → Hid (∀ b W, At4 b (.bool false) (.int .i64 1) (.int .i64 X0) (.int .u64 S0) W → Calls Tryz.prog 19 #[.int .u64 pq, .int .i64 x2, .pointer (some ⟨b, 0, none⟩)] W fun r W' => r = .returned (.int .i64 d2) ∧ Below W.heap.size W W')) (s0 : 0 ≤ S1)
    (hu : u = 1 ∨ u = 0 ∧ S1 % 2 = 0) (hd : (S1 == 8388608) = true ∧ (d2 = -1 ∨ d2 = 0 ∧ S1 % 2 = 0) ∨ (S1 == 8388608) = false ∧ (d1 = -1 ∨ d1 = 0 ∧ S1 % 2 = 0)) :
    Cm 8 #[.int .i64 32, .int .u64 a] (.bool true) := by
  have hmf : ∀ (fn : Fn) (first cap : Array Value) (w : World), (Instr.makeFunc fn first cap).run Tryz.prog w = .ok (.func fn first cap) w := fun _ _ _ _ => rfl
  refine hide (fun W m => ?_)
  have HM := hide m
  clear m
  have HB := hide (Below.refl W.heap.size W)
  go_enter Tryz.func8, Tryz.ntmps8
  go_wp2_with fail
  refine (unhide H0 _ (unhide HM)).mono ?_
  rintro _ w1 ⟨rfl, hb⟩
  have HB := hide (bthen (unhide HB) hb)
  have HM := hide ((unhide HM).below hb)
  clear hb
  go_wp2_with fail
  refine (unhide HO _).mono ?_
  rintro _ w2 ⟨rfl, hb⟩
  have HB := hide (bthen (unhide HB) hb)
  have HM := hide ((unhide HM).below hb)
  clear hb
  skip
  have HB := hide (balloc (unhide HB) (.cells #[.bool false, .int .i64 1, .int .i64 X0, .int .u64 S0] 37))
  have HM := hide ((unhide HM).below (below1 w2 (.cells #[.bool false, .int .i64 1, .int .i64 X0, .int .u64 S0] 37)))
  have HX := hide (at4_new w2 (.bool false) (.int .i64 1) (.int .i64 X0) (.int .u64 S0) 37)
  go_wp2_with fail
  refine (unhide H1 _ (unhide HM)).mono ?_
  rintro _ w3 ⟨rfl, hb⟩
  have HB := hide (bthen (unhide HB) hb)
  have HM := hide ((unhide HM).below hb)
  have HX := hide ((unhide HX).below hb)
  clear hb
  go_wp2_with fail
  refine (unhide HP _).mono ?_
  rintro _ w4 ⟨rfl, hb⟩
  have HB := hide (bthen (unhide HB) hb)
  have HM := hide ((unhide HM).below hb)
  have HX := hide ((unhide HX).below hb)
  clear hb
  skip
  have HB := hide (balloc (unhide HB) (.cells #[.bool false, .int .i64 1, .int .i64 X1, .int .u64 S1] 37))
  have HM := hide ((unhide HM).below (below1 w4 (.cells #[.bool false, .int .i64 1, .int .i64 X1, .int .u64 S1] 37)))
  have HX := hide ((unhide HX).below (below1 w4 (.cells #[.bool false, .int .i64 1, .int .i64 X1, .int .u64 S1] 37)))
  have HV := hide (at4_new w4 (.bool false) (.int .i64 1) (.int .i64 X1) (.int .u64 S1) 37)
  go_wp2_with fail
  refine (unhide HF _).mono ?_
  rintro _ w5 ⟨rfl, hb⟩
  have HB := hide (bthen (unhide HB) hb)
  have HM := hide ((unhide HM).below hb)
  have HX := hide ((unhide HX).below hb)
  have HV := hide ((unhide HV).below hb)
  clear hb
  skip
  obtain ⟨c0, c1, c2, c3⟩ := unhide HV
  go_wp2_with fail
  clear c0 c1 c2 c3
  refine (unhide HD _ _ (unhide HX)).mono ?_
  rintro _ w6 ⟨rfl, hb⟩
  have HB := hide (bthen (unhide HB) hb)
  have HM := hide ((unhide HM).below hb)
  have HX := hide ((unhide HX).below hb)
  have HV := hide ((unhide HV).below hb)
  clear hb
  skip
  have HB := hide (unhide HB).drew
  have HX := hide ((unhide HX).below ((Below.refl _ _).drew))
  have HV := hide ((unhide HV).below ((Below.refl _ _).drew))
  have HM := hide ((unhide HM).below ((Below.refl _ _).drew))
  have hsh : IntKind.u64.wrap (1 * 2 ^ 23) = 8388608 := by decide
  rcases hd with ⟨bt, hd⟩ | ⟨bt, hd⟩
  · have HE := HE bt
    obtain ⟨c0, c1, c2, c3⟩ := unhide HV
    go_wp2_with fail
    go_region
    go_wp2_with fail
    clear c0 c1 c2 c3
    refine (unhide HE _ _ (unhide HX)).mono ?_
    rintro _ w7 ⟨rfl, hb⟩
    have HB := hide (bthen (unhide HB) hb)
    have HM := hide ((unhide HM).below hb)
    have HX := hide ((unhide HX).below hb)
    have HV := hide ((unhide HV).below hb)
    clear hb
    skip
    obtain ⟨c0, c1, c2, c3⟩ := unhide HV
    go_wp2_with fail
    clear c0 c1 c2 c3
    refine (unhide HU _ _ (unhide HX)).mono ?_
    rintro _ w8 ⟨rfl, hb⟩
    have HB := hide (bthen (unhide HB) hb)
    have HM := hide ((unhide HM).below hb)
    have HX := hide ((unhide HX).below hb)
    have HV := hide ((unhide HV).below hb)
    clear hb
    skip
    have HZ := HB
    rcases hu with rfl | ⟨rfl, hev⟩
    all_goals
      rcases hd with rfl | ⟨rfl, hev'⟩
      all_goals
        obtain ⟨c0, c1, c2, c3⟩ := unhide HV
        go_wp2_with fail
        go_ret
        exact ⟨by first | rfl | simp, unhide HZ⟩
  · clear HE
    obtain ⟨c0, c1, c2, c3⟩ := unhide HV
    go_wp2_with fail
    go_region
    go_wp2_with fail
    clear c0 c1 c2 c3
    refine (unhide HU _ _ (unhide HX)).mono ?_
    rintro _ w8 ⟨rfl, hb⟩
    have HB := hide (bthen (unhide HB) hb)
    have HM := hide ((unhide HM).below hb)
    have HX := hide ((unhide HX).below hb)
    have HV := hide ((unhide HV).below hb)
    clear hb
    skip
    have HZ := HB
    rcases hu with rfl | ⟨rfl, hev⟩
    all_goals
      rcases hd with rfl | ⟨rfl, hev'⟩
      all_goals
        obtain ⟨c0, c1, c2, c3⟩ := unhide HV
        go_wp2_with fail
        go_ret
        exact ⟨by first | rfl | simp, unhide HZ⟩
set_option maxHeartbeats 4000000 in
set_option maxRecDepth 100000 in
theorem troots_f64 {a X0 S0 v X1 S1 p2 pm pp p4 pq x1 x2 u d1 d2 : Int} (H0 : Ap 145 1082130432 0 1073741824 0) (HO : Ct 15 #[.int .i64 64, .int .u64 a] (.agg #[.bool false, .int .i64 1, .int .i64 X0, .int .u64 S0])) (H1 : Ap 159 a 0 v 0) (HP : Ct 15 #[.int .i64 64, .int .u64 v] (.agg #[.bool false, .int .i64 1, .int .i64 X1, .int .u64 S1])) (HF : Ct 23 #[.int .i64 64] (.tuple #[.int .i64 11, .int .i64 52]))
    (e1 : IntKind.u64.wrap (2 * S1) = p2) (e2 : IntKind.u64.wrap (p2 - 1) = pm) (e3 : IntKind.u64.wrap (p2 + 1) = pp) (e4 : IntKind.u64.wrap (4 * S1) = p4) (e5 : IntKind.u64.wrap (p4 - 1) = pq) (e6 : IntKind.i64.wrap (X1 - 1) = x1) (e7 : IntKind.i64.wrap (X1 - 2) = x2)
    (HU : Hid (∀ b W, At4 b (.bool false) (.int .i64 1) (.int .i64 X0) (.int .u64 S0) W → Calls Tryz.prog 19 #[.int .u64 pp, .int .i64 x1, .pointer (some ⟨b, 0, none⟩)] W fun r W' => r = .returned (.int .i64 u) ∧ Below W.heap.size W W')) (HD : Hid (∀ b W, At4 b (.bool false) (.int .i64 1) (.int .i64 X0) (.int .u64 S0) W → Calls Tryz.prog 19 #[.int .u64 pm, .int .i64 x1, .pointer (some ⟨b, 0, none⟩)] W fun r W' => r = .returned (.int .i64 d1) ∧ Below W.heap.size W W')) (HE : (S1 == 4503599627370496) = true → Hid (∀ b W, At4 b (.bool false) (.int .i64 1) (.int .i64 X0) (.int .u64 S0) W → Calls Tryz.prog 19 #[.int .u64 pq, .int .i64 x2, .pointer (some ⟨b, 0, none⟩)] W fun r W' => r = .returned (.int .i64 d2) ∧ Below W.heap.size W W')) (s0 : 0 ≤ S1)
    (hu : u = 1 ∨ u = 0 ∧ S1 % 2 = 0) (hd : (S1 == 4503599627370496) = true ∧ (d2 = -1 ∨ d2 = 0 ∧ S1 % 2 = 0) ∨ (S1 == 4503599627370496) = false ∧ (d1 = -1 ∨ d1 = 0 ∧ S1 % 2 = 0)) :
    Cm 8 #[.int .i64 64, .int .u64 a] (.bool true) := by
  have hmf : ∀ (fn : Fn) (first cap : Array Value) (w : World), (Instr.makeFunc fn first cap).run Tryz.prog w = .ok (.func fn first cap) w := fun _ _ _ _ => rfl
  refine hide (fun W m => ?_)
  have HM := hide m
  clear m
  have HB := hide (Below.refl W.heap.size W)
  go_enter Tryz.func8, Tryz.ntmps8
  go_wp2_with fail
  refine (unhide H0 _ (unhide HM)).mono ?_
  rintro _ w1 ⟨rfl, hb⟩
  have HB := hide (bthen (unhide HB) hb)
  have HM := hide ((unhide HM).below hb)
  clear hb
  go_wp2_with fail
  refine (unhide HO _).mono ?_
  rintro _ w2 ⟨rfl, hb⟩
  have HB := hide (bthen (unhide HB) hb)
  have HM := hide ((unhide HM).below hb)
  clear hb
  skip
  have HB := hide (balloc (unhide HB) (.cells #[.bool false, .int .i64 1, .int .i64 X0, .int .u64 S0] 37))
  have HM := hide ((unhide HM).below (below1 w2 (.cells #[.bool false, .int .i64 1, .int .i64 X0, .int .u64 S0] 37)))
  have HX := hide (at4_new w2 (.bool false) (.int .i64 1) (.int .i64 X0) (.int .u64 S0) 37)
  go_wp2_with fail
  refine (unhide H1 _ (unhide HM)).mono ?_
  rintro _ w3 ⟨rfl, hb⟩
  have HB := hide (bthen (unhide HB) hb)
  have HM := hide ((unhide HM).below hb)
  have HX := hide ((unhide HX).below hb)
  clear hb
  go_wp2_with fail
  refine (unhide HP _).mono ?_
  rintro _ w4 ⟨rfl, hb⟩
  have HB := hide (bthen (unhide HB) hb)
  have HM := hide ((unhide HM).below hb)
  have HX := hide ((unhide HX).below hb)
  clear hb
  skip
  have HB := hide (balloc (unhide HB) (.cells #[.bool false, .int .i64 1, .int .i64 X1, .int .u64 S1] 37))
  have HM := hide ((unhide HM).below (below1 w4 (.cells #[.bool false, .int .i64 1, .int .i64 X1, .int .u64 S1] 37)))
  have HX := hide ((unhide HX).below (below1 w4 (.cells #[.bool false, .int .i64 1, .int .i64 X1, .int .u64 S1] 37)))
  have HV := hide (at4_new w4 (.bool false) (.int .i64 1) (.int .i64 X1) (.int .u64 S1) 37)
  go_wp2_with fail
  refine (unhide HF _).mono ?_
  rintro _ w5 ⟨rfl, hb⟩
  have HB := hide (bthen (unhide HB) hb)
  have HM := hide ((unhide HM).below hb)
  have HX := hide ((unhide HX).below hb)
  have HV := hide ((unhide HV).below hb)
  clear hb
  skip
  obtain ⟨c0, c1, c2, c3⟩ := unhide HV
  go_wp2_with fail
  clear c0 c1 c2 c3
  refine (unhide HD _ _ (unhide HX)).mono ?_
  rintro _ w6 ⟨rfl, hb⟩
  have HB := hide (bthen (unhide HB) hb)
  have HM := hide ((unhide HM).below hb)
  have HX := hide ((unhide HX).below hb)
  have HV := hide ((unhide HV).below hb)
  clear hb
  skip
  have HB := hide (unhide HB).drew
  have HX := hide ((unhide HX).below ((Below.refl _ _).drew))
  have HV := hide ((unhide HV).below ((Below.refl _ _).drew))
  have HM := hide ((unhide HM).below ((Below.refl _ _).drew))
  have hsh : IntKind.u64.wrap (1 * 2 ^ 52) = 4503599627370496 := by decide
  rcases hd with ⟨bt, hd⟩ | ⟨bt, hd⟩
  · have HE := HE bt
    obtain ⟨c0, c1, c2, c3⟩ := unhide HV
    go_wp2_with fail
    go_region
    go_wp2_with fail
    clear c0 c1 c2 c3
    refine (unhide HE _ _ (unhide HX)).mono ?_
    rintro _ w7 ⟨rfl, hb⟩
    have HB := hide (bthen (unhide HB) hb)
    have HM := hide ((unhide HM).below hb)
    have HX := hide ((unhide HX).below hb)
    have HV := hide ((unhide HV).below hb)
    clear hb
    skip
    obtain ⟨c0, c1, c2, c3⟩ := unhide HV
    go_wp2_with fail
    clear c0 c1 c2 c3
    refine (unhide HU _ _ (unhide HX)).mono ?_
    rintro _ w8 ⟨rfl, hb⟩
    have HB := hide (bthen (unhide HB) hb)
    have HM := hide ((unhide HM).below hb)
    have HX := hide ((unhide HX).below hb)
    have HV := hide ((unhide HV).below hb)
    clear hb
    skip
    have HZ := HB
    rcases hu with rfl | ⟨rfl, hev⟩
    all_goals
      rcases hd with rfl | ⟨rfl, hev'⟩
      all_goals
        obtain ⟨c0, c1, c2, c3⟩ := unhide HV
        go_wp2_with fail
        go_ret
        exact ⟨by first | rfl | simp, unhide HZ⟩
  · clear HE
    obtain ⟨c0, c1, c2, c3⟩ := unhide HV
    go_wp2_with fail
    go_region
    go_wp2_with fail
    clear c0 c1 c2 c3
    refine (unhide HU _ _ (unhide HX)).mono ?_
    rintro _ w8 ⟨rfl, hb⟩
    have HB := hide (bthen (unhide HB) hb)
    have HM := hide ((unhide HM).below hb)
    have HX := hide ((unhide HX).below hb)
    have HV := hide ((unhide HV).below hb)
    clear hb
    skip
    have HZ := HB
    rcases hu with rfl | ⟨rfl, hev⟩
    all_goals
      rcases hd with rfl | ⟨rfl, hev'⟩
      all_goals
        obtain ⟨c0, c1, c2, c3⟩ := unhide HV
        go_wp2_with fail
        go_ret
        exact ⟨by first | rfl | simp, unhide HZ⟩
end Go.Proofs.YtpbgpdmffejdgaaGreatDoor
