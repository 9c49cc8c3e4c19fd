/- LawN2. -/
import Derived.Test.YtpbgpdmffejdgabGreatDoorS37
namespace Go.Proofs.YtpbgpdmffejdgabGreatDoor
open Go.RowKit

set_option maxHeartbeats 4000000 in
set_option maxRecDepth 100000 in
theorem tnans_2 {op a b r c : Int} {z p q : Bool} (H0 : Ap 146 2139095041 0 2143289344 0) (HK : Cm 5 #[.int .i64 op] (.tuple #[.int .u8 125, .int .i64 c, .int .u8 124, .bool true])) (n139 : (op == 139) = false) (n140 : (op == 140) = false) (n152 : (op == 152) = false) (n153 : (op == 153) = false) (n154 : (op == 154) = false) (n166 : (op == 166) = false) (H1 : Ap op a b r 0) (HI : Ct 6 #[.int .i64 64, .int .u64 r] (.bool z)) (HN : Ct 7 #[.int .i64 64] (.int .u64 9221120237041090560)) (HA : Ct 6 #[.int .i64 32, .int .u64 a] (.bool p)) (HC : Ct 6 #[.int .i64 32, .int .u64 b] (.bool q))
    (hc : c = 1 ∨ c = 2) (hz : z = true → (r == 9221120237041090560) = true ∧ (r != 9221120237041090560) = false) (hp : p = true ∨ c = 2 ∧ q = true → (r == 9221120237041090560) = true) : Cm 3 #[.int .i64 op, .int .u64 a, .int .u64 b] (.bool true) := by
  refine hide (fun W m => ?_)
  rcases hc with rfl | rfl <;> cases z <;> cases p <;> cases q
  all_goals
    have HM := hide m
    have HB := hide (Below.refl W.heap.size W)
    try obtain ⟨hz, hz'⟩ := hz rfl
    try have hp := hp (by decide)
    go_enter Tryz.func3, Tryz.ntmps3
    go_wp2_with fail
    refine (unhide H0 _ (unhide HM)).mono ?_
    rintro _ w1 ⟨rfl, hb⟩
    have HB := hide (bthen (unhide HB) hb)
    have HM := hide ((unhide HM).below hb)
    clear hb
    go_wp2_with fail
    refine (unhide HK _ (unhide HM)).mono ?_
    rintro _ w2 ⟨rfl, hb⟩
    have HB := hide (bthen (unhide HB) hb)
    have HM := hide ((unhide HM).below hb)
    clear hb
    go_wp2_with fail
    refine (unhide H1 _ (unhide HM)).mono ?_
    rintro _ w3 ⟨rfl, hb⟩
    have HB := hide (bthen (unhide HB) hb)
    have HM := hide ((unhide HM).below hb)
    clear hb
    go_wp2_with fail
    refine (unhide HI _).mono ?_
    rintro _ w4 ⟨rfl, hb⟩
    have HB := hide (bthen (unhide HB) hb)
    have HM := hide ((unhide HM).below hb)
    clear hb
    go_wp2_with fail
    try
      refine (unhide HN _).mono ?_
      rintro _ w5 ⟨rfl, hb⟩
      have HB := hide (bthen (unhide HB) hb)
      have HM := hide ((unhide HM).below hb)
      clear hb
      go_wp2_with fail
    refine (unhide HA _).mono ?_
    rintro _ w6 ⟨rfl, hb⟩
    have HB := hide (bthen (unhide HB) hb)
    have HM := hide ((unhide HM).below hb)
    clear hb
    go_wp2_with fail
    try
      refine (unhide HC _).mono ?_
      rintro _ w7 ⟨rfl, hb⟩
      have HB := hide (bthen (unhide HB) hb)
      have HM := hide ((unhide HM).below hb)
      clear hb
      go_wp2_with fail
    try
      refine (unhide HN _).mono ?_
      rintro _ w8 ⟨rfl, hb⟩
      have HB := hide (bthen (unhide HB) hb)
      have HM := hide ((unhide HM).below hb)
      clear hb
      go_wp2_with fail
    go_ret
    exact ⟨by first | rfl | simp, unhide HB⟩
end Go.Proofs.YtpbgpdmffejdgabGreatDoor
