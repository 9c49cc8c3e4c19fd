/- LawB. -/
import Derived.Test.YtahdcbjfabccpaaDoorB29
namespace Go.Proofs.YtahdcbjfabccpaaDoor
open Go.RowKit
open Go.Proofs.YtahdcbjfabccpaaDoor.W

set_option maxHeartbeats 4000000 in
set_option maxRecDepth 100000 in
theorem back_nz {x n y z m q c d : Int} (W : World) (HM : Hid (Mk W)) (HA : Ct 5 #[] (.bool true)) (H1 : Ct 13 #[.int .u64 x] (.int .u64 y)) (H2 : Ct 12 #[.int .u64 y] (.int .u64 z)) (HI : Ct 14 #[.int .i64 32, .int .u64 x] (.bool true)) (HN : Ct 15 #[.int .i64 32] (.int .u64 z)) (h40 : n / 1099511627776 = m) (h11 : n / 2048 = q) (E1 : Cm 8 #[.int .i64 32, .int .i64 64, .int .u64 m, .bool false] (.bool true)) (E2 : Cm 8 #[.int .i64 64, .int .i64 64, .int .u64 q, .bool true] (.bool true)) (F1 : Ct 6 #[.int .i64 32, .int .i64 64, .int .u64 m] (.int .u64 c)) (F2 : Ct 13 #[.int .u64 c] (.int .u64 d)) (F3 : Ct 6 #[.int .i64 64, .int .i64 64, .int .u64 m] (.int .u64 d)) (g : (m == 0) = true) :
    Calls Tryd.prog 4 #[.int .u64 x, .int .u64 n] W fun r W' => r = .returned (.bool true) ∧ Below W.heap.size W W' := by
  have HB := hide (Below.refl W.heap.size W)
  go_enter Tryd.func4, Tryd.ntmps4
  go_wp2_with fail
  refine (unhide HA _).mono ?_
  rintro _ w1 ⟨rfl, hb⟩
  have HB := hide (bthen (unhide HB) hb)
  have HM := hide ((unhide HM).below hb)
  clear hb
  go_wp2_with fail
  refine (unhide H1 _).mono ?_
  rintro _ w2 ⟨rfl, hb⟩
  have HB := hide (bthen (unhide HB) hb)
  have HM := hide ((unhide HM).below hb)
  clear hb
  go_wp2_with fail
  refine (unhide H2 _).mono ?_
  rintro _ w3 ⟨rfl, hb⟩
  have HB := hide (bthen (unhide HB) hb)
  have HM := hide ((unhide HM).below hb)
  clear hb
  go_wp2_with fail
  refine (unhide HI _).mono ?_
  rintro _ w4 ⟨rfl, hb⟩
  have HB := hide (bthen (unhide HB) hb)
  have HM := hide ((unhide HM).below hb)
  clear hb
  go_wp2_with fail
  refine (unhide HN _).mono ?_
  rintro _ w5 ⟨rfl, hb⟩
  have HB := hide (bthen (unhide HB) hb)
  have HM := hide ((unhide HM).below hb)
  clear hb
  go_wp2_with fail
  refine (unhide HI _).mono ?_
  rintro _ w6 ⟨rfl, hb⟩
  have HB := hide (bthen (unhide HB) hb)
  have HM := hide ((unhide HM).below hb)
  clear hb
  go_wp2_with fail
  refine (unhide E1 _ (unhide HM)).mono ?_
  rintro _ w7 ⟨rfl, hb⟩
  have HB := hide (bthen (unhide HB) hb)
  have HM := hide ((unhide HM).below hb)
  clear hb
  go_wp2_with fail
  refine (unhide E2 _ (unhide HM)).mono ?_
  rintro _ w8 ⟨rfl, hb⟩
  have HB := hide (bthen (unhide HB) hb)
  have HM := hide ((unhide HM).below hb)
  clear hb
  go_wp2_with fail
  refine (unhide F1 _).mono ?_
  rintro _ w9 ⟨rfl, hb⟩
  have HB := hide (bthen (unhide HB) hb)
  have HM := hide ((unhide HM).below hb)
  clear hb
  go_wp2_with fail
  refine (unhide F2 _).mono ?_
  rintro _ w10 ⟨rfl, hb⟩
  have HB := hide (bthen (unhide HB) hb)
  have HM := hide ((unhide HM).below hb)
  clear hb
  go_wp2_with fail
  refine (unhide F3 _).mono ?_
  rintro _ w11 ⟨rfl, hb⟩
  have HB := hide (bthen (unhide HB) hb)
  have HM := hide ((unhide HM).below hb)
  clear hb
  go_wp2_with fail
  go_ret
  exact ⟨by simp, unhide HB⟩
set_option maxHeartbeats 4000000 in
set_option maxRecDepth 100000 in
theorem back_np {x n y z m q c d r u v : Int} (W : World) (HM : Hid (Mk W)) (HA : Ct 5 #[] (.bool true)) (H1 : Ct 13 #[.int .u64 x] (.int .u64 y)) (H2 : Ct 12 #[.int .u64 y] (.int .u64 z)) (HI : Ct 14 #[.int .i64 32, .int .u64 x] (.bool true)) (HN : Ct 15 #[.int .i64 32] (.int .u64 z)) (h40 : n / 1099511627776 = m) (h11 : n / 2048 = q) (E1 : Cm 8 #[.int .i64 32, .int .i64 64, .int .u64 m, .bool false] (.bool true)) (E2 : Cm 8 #[.int .i64 64, .int .i64 64, .int .u64 q, .bool true] (.bool true)) (F1 : Ct 6 #[.int .i64 32, .int .i64 64, .int .u64 m] (.int .u64 c)) (F2 : Ct 13 #[.int .u64 c] (.int .u64 d)) (F3 : Ct 6 #[.int .i64 64, .int .i64 64, .int .u64 m] (.int .u64 d)) (g : (m == 0) = false) (hr : IntKind.u64.wrap (-m) = r) (I1 : Ct 7 #[.int .i64 64, .int .i64 64, .int .u64 r] (.int .u64 u)) (I2 : Ct 7 #[.int .i64 64, .int .i64 64, .int .u64 m] (.int .u64 v)) (ho : bits .or .u64 v 9223372036854775808 = u) :
    Calls Tryd.prog 4 #[.int .u64 x, .int .u64 n] W fun r W' => r = .returned (.bool true) ∧ Below W.heap.size W W' := by
  have HB := hide (Below.refl W.heap.size W)
  go_enter Tryd.func4, Tryd.ntmps4
  go_wp2_with fail
  refine (unhide HA _).mono ?_
  rintro _ w1 ⟨rfl, hb⟩
  have HB := hide (bthen (unhide HB) hb)
  have HM := hide ((unhide HM).below hb)
  clear hb
  go_wp2_with fail
  refine (unhide H1 _).mono ?_
  rintro _ w2 ⟨rfl, hb⟩
  have HB := hide (bthen (unhide HB) hb)
  have HM := hide ((unhide HM).below hb)
  clear hb
  go_wp2_with fail
  refine (unhide H2 _).mono ?_
  rintro _ w3 ⟨rfl, hb⟩
  have HB := hide (bthen (unhide HB) hb)
  have HM := hide ((unhide HM).below hb)
  clear hb
  go_wp2_with fail
  refine (unhide HI _).mono ?_
  rintro _ w4 ⟨rfl, hb⟩
  have HB := hide (bthen (unhide HB) hb)
  have HM := hide ((unhide HM).below hb)
  clear hb
  go_wp2_with fail
  refine (unhide HN _).mono ?_
  rintro _ w5 ⟨rfl, hb⟩
  have HB := hide (bthen (unhide HB) hb)
  have HM := hide ((unhide HM).below hb)
  clear hb
  go_wp2_with fail
  refine (unhide HI _).mono ?_
  rintro _ w6 ⟨rfl, hb⟩
  have HB := hide (bthen (unhide HB) hb)
  have HM := hide ((unhide HM).below hb)
  clear hb
  go_wp2_with fail
  refine (unhide E1 _ (unhide HM)).mono ?_
  rintro _ w7 ⟨rfl, hb⟩
  have HB := hide (bthen (unhide HB) hb)
  have HM := hide ((unhide HM).below hb)
  clear hb
  go_wp2_with fail
  refine (unhide E2 _ (unhide HM)).mono ?_
  rintro _ w8 ⟨rfl, hb⟩
  have HB := hide (bthen (unhide HB) hb)
  have HM := hide ((unhide HM).below hb)
  clear hb
  go_wp2_with fail
  refine (unhide F1 _).mono ?_
  rintro _ w9 ⟨rfl, hb⟩
  have HB := hide (bthen (unhide HB) hb)
  have HM := hide ((unhide HM).below hb)
  clear hb
  go_wp2_with fail
  refine (unhide F2 _).mono ?_
  rintro _ w10 ⟨rfl, hb⟩
  have HB := hide (bthen (unhide HB) hb)
  have HM := hide ((unhide HM).below hb)
  clear hb
  go_wp2_with fail
  refine (unhide F3 _).mono ?_
  rintro _ w11 ⟨rfl, hb⟩
  have HB := hide (bthen (unhide HB) hb)
  have HM := hide ((unhide HM).below hb)
  clear hb
  go_wp2_with fail
  refine (unhide I1 _).mono ?_
  rintro _ w12 ⟨rfl, hb⟩
  have HB := hide (bthen (unhide HB) hb)
  have HM := hide ((unhide HM).below hb)
  clear hb
  go_wp2_with fail
  refine (unhide I2 _).mono ?_
  rintro _ w13 ⟨rfl, hb⟩
  have HB := hide (bthen (unhide HB) hb)
  have HM := hide ((unhide HM).below hb)
  clear hb
  go_wp2_with fail
  go_ret
  exact ⟨by simp, unhide HB⟩
set_option maxHeartbeats 4000000 in
set_option maxRecDepth 100000 in
theorem back_cz {x n y z m q c d : Int} (W : World) (HM : Hid (Mk W)) (HA : Ct 5 #[] (.bool true)) (H1 : Ct 13 #[.int .u64 x] (.int .u64 y)) (H2 : Ct 12 #[.int .u64 y] (.int .u64 z)) (HI : Ct 14 #[.int .i64 32, .int .u64 x] (.bool false)) (HN : Ct 16 #[.int .i64 32, .int .u64 x] (.int .u64 z)) (h40 : n / 1099511627776 = m) (h11 : n / 2048 = q) (E1 : Cm 8 #[.int .i64 32, .int .i64 64, .int .u64 m, .bool false] (.bool true)) (E2 : Cm 8 #[.int .i64 64, .int .i64 64, .int .u64 q, .bool true] (.bool true)) (F1 : Ct 6 #[.int .i64 32, .int .i64 64, .int .u64 m] (.int .u64 c)) (F2 : Ct 13 #[.int .u64 c] (.int .u64 d)) (F3 : Ct 6 #[.int .i64 64, .int .i64 64, .int .u64 m] (.int .u64 d)) (g : (m == 0) = true) :
    Calls Tryd.prog 4 #[.int .u64 x, .int .u64 n] W fun r W' => r = .returned (.bool true) ∧ Below W.heap.size W W' := by
  have HB := hide (Below.refl W.heap.size W)
  go_enter Tryd.func4, Tryd.ntmps4
  go_wp2_with fail
  refine (unhide HA _).mono ?_
  rintro _ w1 ⟨rfl, hb⟩
  have HB := hide (bthen (unhide HB) hb)
  have HM := hide ((unhide HM).below hb)
  clear hb
  go_wp2_with fail
  refine (unhide H1 _).mono ?_
  rintro _ w2 ⟨rfl, hb⟩
  have HB := hide (bthen (unhide HB) hb)
  have HM := hide ((unhide HM).below hb)
  clear hb
  go_wp2_with fail
  refine (unhide H2 _).mono ?_
  rintro _ w3 ⟨rfl, hb⟩
  have HB := hide (bthen (unhide HB) hb)
  have HM := hide ((unhide HM).below hb)
  clear hb
  go_wp2_with fail
  refine (unhide HI _).mono ?_
  rintro _ w4 ⟨rfl, hb⟩
  have HB := hide (bthen (unhide HB) hb)
  have HM := hide ((unhide HM).below hb)
  clear hb
  go_wp2_with fail
  refine (unhide HI _).mono ?_
  rintro _ w5 ⟨rfl, hb⟩
  have HB := hide (bthen (unhide HB) hb)
  have HM := hide ((unhide HM).below hb)
  clear hb
  go_wp2_with fail
  refine (unhide HN _).mono ?_
  rintro _ w6 ⟨rfl, hb⟩
  have HB := hide (bthen (unhide HB) hb)
  have HM := hide ((unhide HM).below hb)
  clear hb
  go_wp2_with fail
  refine (unhide E1 _ (unhide HM)).mono ?_
  rintro _ w7 ⟨rfl, hb⟩
  have HB := hide (bthen (unhide HB) hb)
  have HM := hide ((unhide HM).below hb)
  clear hb
  go_wp2_with fail
  refine (unhide E2 _ (unhide HM)).mono ?_
  rintro _ w8 ⟨rfl, hb⟩
  have HB := hide (bthen (unhide HB) hb)
  have HM := hide ((unhide HM).below hb)
  clear hb
  go_wp2_with fail
  refine (unhide F1 _).mono ?_
  rintro _ w9 ⟨rfl, hb⟩
  have HB := hide (bthen (unhide HB) hb)
  have HM := hide ((unhide HM).below hb)
  clear hb
  go_wp2_with fail
  refine (unhide F2 _).mono ?_
  rintro _ w10 ⟨rfl, hb⟩
  have HB := hide (bthen (unhide HB) hb)
  have HM := hide ((unhide HM).below hb)
  clear hb
  go_wp2_with fail
  refine (unhide F3 _).mono ?_
  rintro _ w11 ⟨rfl, hb⟩
  have HB := hide (bthen (unhide HB) hb)
  have HM := hide ((unhide HM).below hb)
  clear hb
  go_wp2_with fail
  go_ret
  exact ⟨by simp, unhide HB⟩
set_option maxHeartbeats 4000000 in
set_option maxRecDepth 100000 in
theorem back_cp {x n y z m q c d r u v : Int} (W : World) (HM : Hid (Mk W)) (HA : Ct 5 #[] (.bool true)) (H1 : Ct 13 #[.int .u64 x] (.int .u64 y)) (H2 : Ct 12 #[.int .u64 y] (.int .u64 z)) (HI : Ct 14 #[.int .i64 32, .int .u64 x] (.bool false)) (HN : Ct 16 #[.int .i64 32, .int .u64 x] (.int .u64 z)) (h40 : n / 1099511627776 = m) (h11 : n / 2048 = q) (E1 : Cm 8 #[.int .i64 32, .int .i64 64, .int .u64 m, .bool false] (.bool true)) (E2 : Cm 8 #[.int .i64 64, .int .i64 64, .int .u64 q, .bool true] (.bool true)) (F1 : Ct 6 #[.int .i64 32, .int .i64 64, .int .u64 m] (.int .u64 c)) (F2 : Ct 13 #[.int .u64 c] (.int .u64 d)) (F3 : Ct 6 #[.int .i64 64, .int .i64 64, .int .u64 m] (.int .u64 d)) (g : (m == 0) = false) (hr : IntKind.u64.wrap (-m) = r) (I1 : Ct 7 #[.int .i64 64, .int .i64 64, .int .u64 r] (.int .u64 u)) (I2 : Ct 7 #[.int .i64 64, .int .i64 64, .int .u64 m] (.int .u64 v)) (ho : bits .or .u64 v 9223372036854775808 = u) :
    Calls Tryd.prog 4 #[.int .u64 x, .int .u64 n] W fun r W' => r = .returned (.bool true) ∧ Below W.heap.size W W' := by
  have HB := hide (Below.refl W.heap.size W)
  go_enter Tryd.func4, Tryd.ntmps4
  go_wp2_with fail
  refine (unhide HA _).mono ?_
  rintro _ w1 ⟨rfl, hb⟩
  have HB := hide (bthen (unhide HB) hb)
  have HM := hide ((unhide HM).below hb)
  clear hb
  go_wp2_with fail
  refine (unhide H1 _).mono ?_
  rintro _ w2 ⟨rfl, hb⟩
  have HB := hide (bthen (unhide HB) hb)
  have HM := hide ((unhide HM).below hb)
  clear hb
  go_wp2_with fail
  refine (unhide H2 _).mono ?_
  rintro _ w3 ⟨rfl, hb⟩
  have HB := hide (bthen (unhide HB) hb)
  have HM := hide ((unhide HM).below hb)
  clear hb
  go_wp2_with fail
  refine (unhide HI _).mono ?_
  rintro _ w4 ⟨rfl, hb⟩
  have HB := hide (bthen (unhide HB) hb)
  have HM := hide ((unhide HM).below hb)
  clear hb
  go_wp2_with fail
  refine (unhide HI _).mono ?_
  rintro _ w5 ⟨rfl, hb⟩
  have HB := hide (bthen (unhide HB) hb)
  have HM := hide ((unhide HM).below hb)
  clear hb
  go_wp2_with fail
  refine (unhide HN _).mono ?_
  rintro _ w6 ⟨rfl, hb⟩
  have HB := hide (bthen (unhide HB) hb)
  have HM := hide ((unhide HM).below hb)
  clear hb
  go_wp2_with fail
  refine (unhide E1 _ (unhide HM)).mono ?_
  rintro _ w7 ⟨rfl, hb⟩
  have HB := hide (bthen (unhide HB) hb)
  have HM := hide ((unhide HM).below hb)
  clear hb
  go_wp2_with fail
  refine (unhide E2 _ (unhide HM)).mono ?_
  rintro _ w8 ⟨rfl, hb⟩
  have HB := hide (bthen (unhide HB) hb)
  have HM := hide ((unhide HM).below hb)
  clear hb
  go_wp2_with fail
  refine (unhide F1 _).mono ?_
  rintro _ w9 ⟨rfl, hb⟩
  have HB := hide (bthen (unhide HB) hb)
  have HM := hide ((unhide HM).below hb)
  clear hb
  go_wp2_with fail
  refine (unhide F2 _).mono ?_
  rintro _ w10 ⟨rfl, hb⟩
  have HB := hide (bthen (unhide HB) hb)
  have HM := hide ((unhide HM).below hb)
  clear hb
  go_wp2_with fail
  refine (unhide F3 _).mono ?_
  rintro _ w11 ⟨rfl, hb⟩
  have HB := hide (bthen (unhide HB) hb)
  have HM := hide ((unhide HM).below hb)
  clear hb
  go_wp2_with fail
  refine (unhide I1 _).mono ?_
  rintro _ w12 ⟨rfl, hb⟩
  have HB := hide (bthen (unhide HB) hb)
  have HM := hide ((unhide HM).below hb)
  clear hb
  go_wp2_with fail
  refine (unhide I2 _).mono ?_
  rintro _ w13 ⟨rfl, hb⟩
  have HB := hide (bthen (unhide HB) hb)
  have HM := hide ((unhide HM).below hb)
  clear hb
  go_wp2_with fail
  go_ret
  exact ⟨by simp, unhide HB⟩
end Go.Proofs.YtahdcbjfabccpaaDoor
