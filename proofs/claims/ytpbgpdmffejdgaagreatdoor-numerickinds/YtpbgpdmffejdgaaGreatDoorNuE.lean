/- The walk of Apply. -/
import Derived.Test.YtpbgpdmffejdgaaGreatDoorNuA
import Derived.Test.YtpbgpdmffejdgaaGreatDoorOpen
import Derived.Test.YtpbgpdmffejdgaaGreatDoorSet2
import Derived.Test.YtpbgpdmffejdgaaGreatDoorTk
namespace Go.Proofs.YtpbgpdmffejdgaaGreatDoor
open Go.RowKit

set_option maxHeartbeats 4000000 in
set_option maxRecDepth 100000 in
theorem app_w {op a b f n d o k ti tu w v x y r t : Int} (HF : Cm 24 #[.int .i64 op] (.tuple #[.agg #[.int .i64 f, .int .i64 n, .int .i64 d, .int .u8 o], .int .i64 k, .bool true])) (HT : Cm 25 #[.agg #[.int .i64 f, .int .i64 n, .int .i64 d, .int .u8 o], .int .i64 k] (.agg #[.int .u8 ti, .int .u8 tu])) (HW : Ct 33 #[.int .u8 ti] (.int .i64 w)) (HV : Ct 33 #[.int .u8 tu] (.int .i64 v)) (HA : Ct 17 #[.int .i64 w, .int .u64 a] (.int .u64 x)) (HC : Ct 17 #[.int .i64 w, .int .u64 b] (.int .u64 y))
    (HQ : (d = 0 ∧ t = 0 ∧ ∃ so, Cm 35 #[.int .i64 k, .int .i64 w, .int .u64 x, .int .u64 y] (.bool so) ∧ Ct 34 #[.bool so] (.int .u64 r)) ∨
     (d = 1 ∧ t = 0 ∧ ∃ so, Cm 36 #[.int .i64 k, .int .i64 w, .int .u64 x, .int .u64 y] (.bool so) ∧ Ct 34 #[.bool so] (.int .u64 r)) ∨
     (d = 2 ∧ Cm 37 #[.int .i64 k, .int .i64 w, .int .u64 x, .int .u64 y] (.tuple #[.int .u64 r, .int .i64 t])) ∨
     (d = 3 ∧ t = 0 ∧ Cm 38 #[.int .i64 k, .int .i64 w, .int .u64 x, .int .u64 y] (.int .u64 r)) ∨
     (d = 4 ∧ Cm 39 #[.int .i64 k, .int .i64 w, .int .i64 v, .int .u64 x] (.tuple #[.int .u64 r, .int .i64 t])) ∨
     (d = 5 ∧ t = 0 ∧ Cm 40 #[.int .i64 k, .int .i64 w, .int .i64 v, .int .u64 x] (.int .u64 r))) :
    Cm 13 #[.int .i64 op, .int .u64 a, .int .u64 b] (.tuple #[.int .u64 r, .int .i64 t]) := by
  refine hide (fun W m => ?_)
  have HM := hide m
  clear m
  have HB := hide (Below.refl W.heap.size W)
  go_enter Tryz.func13, Tryz.ntmps13
  go_wp2_with fail
  refine (unhide HF _ (unhide HM)).mono ?_
  rintro _ w1 ⟨rfl, hb⟩
  have HB := hide (bthen (unhide HB) hb)
  have HM := hide ((unhide HM).below hb)
  clear hb
  have HB := hide (balloc (unhide HB) (.cells #[.int .i64 f, .int .i64 n, .int .i64 d, .int .u8 o] 55))
  have HG := hide (at4_new w1 (.int .i64 f) (.int .i64 n) (.int .i64 d) (.int .u8 o) 55)
  have HM := hide ((unhide HM).below (below1 w1 (.cells #[.int .i64 f, .int .i64 n, .int .i64 d, .int .u8 o] 55)))
  go_wp2_with fail
  refine (unhide HT _ (unhide HM)).mono ?_
  rintro _ w2 ⟨rfl, hb⟩
  have HB := hide (bthen (unhide HB) hb)
  have HM := hide ((unhide HM).below hb)
  have HG := hide ((unhide HG).below hb)
  clear hb
  have HB := hide (balloc (unhide HB) (.cells #[.int .u8 ti, .int .u8 tu] 59)).drew
  have HG := hide ((unhide HG).below (below1 w2 (.cells #[.int .u8 ti, .int .u8 tu] 59)).drew)
  have HM := hide ((unhide HM).below (below1 w2 (.cells #[.int .u8 ti, .int .u8 tu] 59)).drew)
  have H2 := hide ((at2_new w2 (.int .u8 ti) (.int .u8 tu) 59).below ((Below.refl _ _).drew))
  go_wp2_with fail
  refine wp_region_held_drew (S := fun w' => (w'.cell? ⟨w2.heap.size, 0, none⟩ = some (.int .u8 ti) ∧ w'.cell? ⟨w2.heap.size, 1, none⟩ = some (.int .u8 tu))) (by kernel_rfl) ?_ (fun hHeld => ?_)
  · (try dsimp only)
    exact unhide H2
  refine lst0 8 (by kernel_rfl) ?_
  refine tkA 0 25 1 ?_
  refine tkA 1 26 3 ?_
  refine tkA 3 28 11 ?_
  refine tkA 4 29 27 ?_
  refine rdA 2 31 (fun Kk hKk => ?_)
  go_simp
  refine (unhide HW _).mono ?_
  rintro _ w3 ⟨rfl, hb⟩
  have HB := hide (bthen (unhide HB) hb)
  have HM := hide ((unhide HM).below hb)
  have HG := hide ((unhide HG).below hb)
  have H2 := hide ((unhide H2).below hb)
  clear hb
  (try go_wp2_with fail)
  refine hKk.out _ _ ?_ (fun hHeld => ?_)
  · (try dsimp only)
    exact unhide H2
  clear hKk Kk
  (try simp only [List.setIfInBounds_toArray, List.set_cons_zero, List.set_cons_succ])
  refine rdA 5 63 (fun Kk hKk => ?_)
  go_simp
  refine (unhide HV _).mono ?_
  rintro _ w4 ⟨rfl, hb⟩
  have HB := hide (bthen (unhide HB) hb)
  have HM := hide ((unhide HM).below hb)
  have HG := hide ((unhide HG).below hb)
  have H2 := hide ((unhide H2).below hb)
  clear hb
  (try go_wp2_with fail)
  refine hKk.out _ _ ?_ (fun hHeld => ?_)
  · (try dsimp only)
    exact unhide H2
  clear hKk Kk
  (try simp only [List.setIfInBounds_toArray, List.set_cons_zero, List.set_cons_succ])
  refine tkA 6 12 127 ?_
  refine tkA 7 13 255 ?_
  refine wpAnyH_done (by kernel_rfl) ?_ _
  clear hHeld H2
  go_wp2_with fail
  refine (unhide HA _).mono ?_
  rintro _ w5 ⟨rfl, hb⟩
  have HB := hide (bthen (unhide HB) hb)
  have HM := hide ((unhide HM).below hb)
  have HG := hide ((unhide HG).below hb)
  clear hb
  go_wp2_with fail
  refine (unhide HC _).mono ?_
  rintro _ w6 ⟨rfl, hb⟩
  have HB := hide (bthen (unhide HB) hb)
  have HM := hide ((unhide HM).below hb)
  have HG := hide ((unhide HG).below hb)
  clear hb
  obtain ⟨c0, c1, c2, c3⟩ := unhide HG
  have HZ := HB
  have HN := HM
  rcases HQ with ⟨rfl, rfl, so, HQ, HR⟩ | ⟨rfl, rfl, so, HQ, HR⟩ | ⟨rfl, HQ⟩ | ⟨rfl, rfl, HQ⟩ | ⟨rfl, HQ⟩ | ⟨rfl, rfl, HQ⟩
  all_goals
    go_wp2_with fail
    clear c0 c1 c2 c3
    refine (unhide HQ _ (unhide HN)).mono ?_
    rintro _ w7 ⟨rfl, hb⟩
    have HB := hide (bthen (unhide HZ) hb)
    clear hb
    go_wp2_with fail
    try
      refine (unhide HR _).mono ?_
      rintro _ w8 ⟨rfl, hb⟩
      have HB := hide (bthen (unhide HB) hb)
      clear hb
      go_wp2_with fail
    go_ret2
    exact ⟨rfl, unhide HB⟩
set_option maxHeartbeats 4000000 in
set_option maxRecDepth 100000 in
theorem app_no {op a b : Int} (HF : Cm 24 #[.int .i64 op] (.tuple #[.agg #[.int .i64 0, .int .i64 0, .int .i64 0, .int .u8 0], .int .i64 0, .bool false])) : Cm 13 #[.int .i64 op, .int .u64 a, .int .u64 b] (.tuple #[.int .u64 0, .int .i64 0]) := by
  refine hide (fun W m => ?_)
  have HM := hide m
  clear m
  have HB := hide (Below.refl W.heap.size W)
  go_enter Tryz.func13, Tryz.ntmps13
  go_wp2_with fail
  refine (unhide HF _ (unhide HM)).mono ?_
  rintro _ w1 ⟨rfl, hb⟩
  have HB := hide (bthen (unhide HB) hb)
  have HM := hide ((unhide HM).below hb)
  clear hb
  have HB := hide (balloc (unhide HB) (.cells #[.int .i64 0, .int .i64 0, .int .i64 0, .int .u8 0] 55))
  go_wp2_with fail
  go_ret2
  exact ⟨rfl, unhide HB⟩
end Go.Proofs.YtpbgpdmffejdgaaGreatDoor
