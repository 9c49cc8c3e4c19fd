/- The statements' own test of the chapter's example; walks of SignTurns and SignBack. -/
import Derived.Test.YtahaocnlclkeaaaDoorSgC
namespace Go.Proofs.YtahaocnlclkeaaaDoor
open Go.RowKit

set_option maxHeartbeats 4000000 in
set_option maxRecDepth 100000 in
theorem awake_l {u : Int} (W : World) (HM : Hid (Mk W)) (H1 : Cm 9 #[.int .i64 32, .int .u64 2143289344] (.int .u64 u)) (h1 : u = 4290772992) (H2 : Cm 8 #[.int .i64 64, .int .u64 9223372036854775813] (.int .u64 5)) :
    Calls Tryd.prog 6 #[] W fun r W' => r = .returned (.bool true) ∧ Below W.heap.size W W' := by
  subst h1
  have HB := hide (Below.refl W.heap.size W)
  go_enter Tryd.func6, Tryd.ntmps6
  go_wp2_with fail
  refine (unhide H1 _ (unhide HM)).mono ?_
  rintro _ w1 ⟨rfl, hb⟩
  have HB := hide (bthen (unhide HB) hb)
  have HM := hide ((unhide HM).below hb)
  clear hb
  go_wp2_with fail
  refine (unhide H2 _ (unhide HM)).mono ?_
  rintro _ w2 ⟨rfl, hb⟩
  have HB := hide (bthen (unhide HB) hb)
  have HM := hide ((unhide HM).below hb)
  clear hb
  go_wp2_with fail
  go_ret
  exact ⟨rfl, unhide HB⟩
theorem awake_any (W : World) (m : Mk W) : Calls Tryd.prog 6 #[] W fun r W' => r = .returned (.bool true) ∧ Below W.heap.size W W' :=
  awake_l W m (neg_any (w := 32) (x := 2143289344) (Or.inl ⟨rfl, rfl, rfl, rfl, rfl, rfl⟩) (by omega) (by omega)) (by decide +kernel) (abs_any (w := 64) (x := 9223372036854775813) (Or.inr (Or.inl ⟨rfl, rfl, rfl, rfl, rfl, rfl⟩)) (by omega) (by omega))
set_option maxHeartbeats 4000000 in
set_option maxRecDepth 100000 in
theorem turns_no {w x y : Int} (W : World) (HM : Hid (Mk W)) (HW : Cm 6 #[] (.bool true)) (HK : Ct 7 #[.int .i64 w] (.bool false)) (HA : Cm 8 #[.int .i64 w, .int .u64 x] (.int .u64 0)) (HG : Cm 9 #[.int .i64 w, .int .u64 x] (.int .u64 0)) (HC : Cm 10 #[.int .i64 w, .int .u64 x, .int .u64 y] (.int .u64 0)) (HI : Cm 11 #[.int .i64 w, .int .u64 x] (.bool false)) :
    Calls Tryd.prog 3 #[.int .i64 w, .int .u64 x, .int .u64 y] W fun r W' => r = .returned (.bool true) ∧ Below W.heap.size W W' := by
  have HB := hide (Below.refl W.heap.size W)
  go_enter Tryd.func3, Tryd.ntmps3
  go_wp2_with fail
  refine (unhide HW _ (unhide HM)).mono ?_
  rintro _ w1 ⟨rfl, hb⟩
  have HB := hide (bthen (unhide HB) hb)
  have HM := hide ((unhide HM).below hb)
  clear hb
  go_wp2_with fail
  refine (unhide HK _).mono ?_
  rintro _ w2 ⟨rfl, hb⟩
  have HB := hide (bthen (unhide HB) hb)
  have HM := hide ((unhide HM).below hb)
  clear hb
  go_wp2_with fail
  refine (unhide HA _ (unhide HM)).mono ?_
  rintro _ w3 ⟨rfl, hb⟩
  have HB := hide (bthen (unhide HB) hb)
  have HM := hide ((unhide HM).below hb)
  clear hb
  go_wp2_with fail
  refine (unhide HG _ (unhide HM)).mono ?_
  rintro _ w4 ⟨rfl, hb⟩
  have HB := hide (bthen (unhide HB) hb)
  have HM := hide ((unhide HM).below hb)
  clear hb
  go_wp2_with fail
  refine (unhide HC _ (unhide HM)).mono ?_
  rintro _ w5 ⟨rfl, hb⟩
  have HB := hide (bthen (unhide HB) hb)
  have HM := hide ((unhide HM).below hb)
  clear hb
  go_wp2_with fail
  refine (unhide HI _ (unhide HM)).mono ?_
  rintro _ w6 ⟨rfl, hb⟩
  have HB := hide (bthen (unhide HB) hb)
  have HM := hide ((unhide HM).below hb)
  clear hb
  go_wp2_with fail
  go_ret
  exact ⟨rfl, unhide HB⟩
set_option maxHeartbeats 4000000 in
set_option maxRecDepth 100000 in
theorem turns_k {w x y a g c : Int} {n1 n2 : Bool} (W : World) (HM : Hid (Mk W)) (HW : Cm 6 #[] (.bool true)) (HK : Ct 7 #[.int .i64 w] (.bool true)) (HN1 : Ct 12 #[.int .i64 w, .int .u64 x] (.bool n1)) (HN2 : Ct 12 #[.int .i64 w, .int .u64 y] (.bool n2)) (HI : Cm 11 #[.int .i64 w, .int .u64 x] (.bool n1)) (HA : Cm 8 #[.int .i64 w, .int .u64 x] (.int .u64 a)) (HV0 : Cm 13 #[.int .i64 w, .int .u64 x, .bool false] (.int .u64 a)) (HG : Cm 9 #[.int .i64 w, .int .u64 x] (.int .u64 g)) (HV1 : Cm 13 #[.int .i64 w, .int .u64 x, .bool (!n1)] (.int .u64 g)) (HC : Cm 10 #[.int .i64 w, .int .u64 x, .int .u64 y] (.int .u64 c)) (HV2 : Cm 13 #[.int .i64 w, .int .u64 x, .bool n2] (.int .u64 c)) :
    Calls Tryd.prog 3 #[.int .i64 w, .int .u64 x, .int .u64 y] W fun r W' => r = .returned (.bool true) ∧ Below W.heap.size W W' := by
  have HB := hide (Below.refl W.heap.size W)
  go_enter Tryd.func3, Tryd.ntmps3
  go_wp2_with fail
  refine (unhide HW _ (unhide HM)).mono ?_
  rintro _ w1 ⟨rfl, hb⟩
  have HB := hide (bthen (unhide HB) hb)
  have HM := hide ((unhide HM).below hb)
  clear hb
  go_wp2_with fail
  refine (unhide HK _).mono ?_
  rintro _ w2 ⟨rfl, hb⟩
  have HB := hide (bthen (unhide HB) hb)
  have HM := hide ((unhide HM).below hb)
  clear hb
  go_wp2_with fail
  refine (unhide HN1 _).mono ?_
  rintro _ w3 ⟨rfl, hb⟩
  have HB := hide (bthen (unhide HB) hb)
  have HM := hide ((unhide HM).below hb)
  clear hb
  go_wp2_with fail
  refine (unhide HN2 _).mono ?_
  rintro _ w4 ⟨rfl, hb⟩
  have HB := hide (bthen (unhide HB) hb)
  have HM := hide ((unhide HM).below hb)
  clear hb
  go_wp2_with fail
  refine (unhide HI _ (unhide HM)).mono ?_
  rintro _ w5 ⟨rfl, hb⟩
  have HB := hide (bthen (unhide HB) hb)
  have HM := hide ((unhide HM).below hb)
  clear hb
  go_wp2_with fail
  refine (unhide HA _ (unhide HM)).mono ?_
  rintro _ w6 ⟨rfl, hb⟩
  have HB := hide (bthen (unhide HB) hb)
  have HM := hide ((unhide HM).below hb)
  clear hb
  go_wp2_with fail
  refine (unhide HV0 _ (unhide HM)).mono ?_
  rintro _ w7 ⟨rfl, hb⟩
  have HB := hide (bthen (unhide HB) hb)
  have HM := hide ((unhide HM).below hb)
  clear hb
  go_wp2_with fail
  refine (unhide HG _ (unhide HM)).mono ?_
  rintro _ w8 ⟨rfl, hb⟩
  have HB := hide (bthen (unhide HB) hb)
  have HM := hide ((unhide HM).below hb)
  clear hb
  go_wp2_with fail
  refine (unhide HV1 _ (unhide HM)).mono ?_
  rintro _ w9 ⟨rfl, hb⟩
  have HB := hide (bthen (unhide HB) hb)
  have HM := hide ((unhide HM).below hb)
  clear hb
  go_wp2_with fail
  refine (unhide HC _ (unhide HM)).mono ?_
  rintro _ w10 ⟨rfl, hb⟩
  have HB := hide (bthen (unhide HB) hb)
  have HM := hide ((unhide HM).below hb)
  clear hb
  go_wp2_with fail
  refine (unhide HV2 _ (unhide HM)).mono ?_
  rintro _ w11 ⟨rfl, hb⟩
  have HB := hide (bthen (unhide HB) hb)
  have HM := hide ((unhide HM).below hb)
  clear hb
  go_wp2_with fail
  go_ret
  exact ⟨rfl, unhide HB⟩
end Go.Proofs.YtahaocnlclkeaaaDoor
