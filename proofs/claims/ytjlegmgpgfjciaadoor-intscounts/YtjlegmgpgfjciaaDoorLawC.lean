/- The walk of IntsCounts. -/
import Derived.Test.YtjlegmgpgfjciaaDoorCsT
namespace Go.Proofs.YtjlegmgpgfjciaaDoor
open Go.RowKit

theorem at2_one (w : World) (x y : Value) (t : TypeId) : At2 w.heap.size x y (w.alloc (.cells #[x, y] t)) := by unfold At2; simp [go_sem]
set_option maxHeartbeats 4000000 in
set_option maxRecDepth 100000 in
theorem counts_n {w a b f : Int} (HA0 : Ct 4 #[] (.bool true)) (H1 : Ct 5 #[.int .i64 w, .int .u64 a] (.int .u64 0)) (H2 : Cm 6 #[.int .i64 w, .int .u64 a] (.int .u64 0)) (H3 : Ct 7 #[.int .i64 w, .int .u64 a] (.int .u64 0)) (H4 : Ct 8 #[.int .i64 w, .int .u64 a, .int .u64 b] (.bool false)) (H5 : Ct 9 #[.int .i64 w, .int .u64 a, .int .u64 b] (.bool false)) (H6 : Ct 10 #[.int .i64 w, .int .i64 f, .int .u64 a, .bool true] (.int .u64 0)) (H7 : Ct 10 #[.int .i64 w, .int .i64 f, .int .u64 a, .bool false] (.int .u64 0)) (HK : Ct 11 #[.int .i64 w] (.bool false)) : Cm 3 #[.int .i64 w, .int .u64 a, .agg #[.int .u64 b, .int .i64 f]] (.bool true) := by
  refine hide (fun W hM => ?_)
  go_enter Tryd.func3, Tryd.ntmps3
  go_wp2_with fail
  have HB := hide (below1 W (.cells #[.int .u64 b, .int .i64 f] 24))
  have HM := hide (hM.below (unhide HB))
  have HA := hide (at2_one W (.int .u64 b) (.int .i64 f) 24)
  clear hM
  refine (unhide HA0 _).mono ?_
  rintro _ w1 ⟨rfl, hb⟩
  have HB := hide (bthen (unhide HB) hb)
  have HM := hide ((unhide HM).below hb)
  have HA := hide ((unhide HA).below hb)
  clear hb
  go_wp2_with fail
  refine (unhide H1 _).mono ?_
  rintro _ w2 ⟨rfl, hb⟩
  have HB := hide (bthen (unhide HB) hb)
  have HM := hide ((unhide HM).below hb)
  have HA := hide ((unhide HA).below hb)
  clear hb
  go_wp2_with fail
  refine (unhide H2 _ (unhide HM)).mono ?_
  rintro _ w3 ⟨rfl, hb⟩
  have HB := hide (bthen (unhide HB) hb)
  have HM := hide ((unhide HM).below hb)
  have HA := hide ((unhide HA).below hb)
  clear hb
  go_wp2_with fail
  refine (unhide H3 _).mono ?_
  rintro _ w4 ⟨rfl, hb⟩
  have HB := hide (bthen (unhide HB) hb)
  have HM := hide ((unhide HM).below hb)
  have HA := hide ((unhide HA).below hb)
  clear hb
  go_wp2_with fail
  have HB := hide ((unhide HB).drew)
  have HA := hide ((unhide HA).below ((Below.refl _ _).drew))
  refine wp_region_held_drew (S := fun w' => (w'.cell? ⟨W.heap.size, 0, none⟩ = some (.int .u64 b) ∧ w'.cell? ⟨W.heap.size, 1, none⟩ = some (.int .i64 f))) (by kernel_rfl) ?_ (fun hHeld => ?_)
  · (try dsimp only)
    exact unhide HA
  refine lst0 12 (by kernel_rfl) ?_
  refine tkA 0 25 1 ?_
  refine tkA 1 26 3 ?_
  refine tkA 2 27 7 ?_
  refine tkA 3 28 15 ?_
  refine tkA 5 30 47 ?_
  refine tkA 6 31 111 ?_
  refine tkA 7 32 239 ?_
  refine tkA 8 33 495 ?_
  refine rdA 4 511 (fun Kk hKk => ?_)
  go_simp
  refine (unhide H4 _).mono ?_
  rintro _ w5 ⟨rfl, hb⟩
  have HB := hide (bthen (unhide HB) hb)
  have HA := hide ((unhide HA).below hb)
  clear hb
  (try go_wp2_with fail)
  refine hKk.out _ _ ?_ (fun hHeld => ?_)
  · (try dsimp only)
    exact unhide HA
  clear hKk Kk
  (try simp only [List.setIfInBounds_toArray, List.set_cons_zero, List.set_cons_succ])
  refine rdA 9 1023 (fun Kk hKk => ?_)
  go_simp
  refine (unhide H5 _).mono ?_
  rintro _ w6 ⟨rfl, hb⟩
  have HB := hide (bthen (unhide HB) hb)
  have HA := hide ((unhide HA).below hb)
  clear hb
  (try go_wp2_with fail)
  refine hKk.out _ _ ?_ (fun hHeld => ?_)
  · (try dsimp only)
    exact unhide HA
  clear hKk Kk
  (try simp only [List.setIfInBounds_toArray, List.set_cons_zero, List.set_cons_succ])
  refine tkA 10 10 2047 ?_
  refine tkA 11 11 4095 ?_
  refine wpAnyH_done (by kernel_rfl) ?_ _
  clear hHeld
  go_wp2_with fail
  have HB := hide ((unhide HB).drew)
  have HA := hide ((unhide HA).below ((Below.refl _ _).drew))
  refine wp_region_held_drew (S := fun w' => (w'.cell? ⟨W.heap.size, 0, none⟩ = some (.int .u64 b) ∧ w'.cell? ⟨W.heap.size, 1, none⟩ = some (.int .i64 f))) (by kernel_rfl) ?_ (fun hHeld => ?_)
  · (try dsimp only)
    exact unhide HA
  refine lst0 12 (by kernel_rfl) ?_
  refine tkA 0 35 1 ?_
  refine tkA 1 36 3 ?_
  refine tkA 2 37 7 ?_
  refine tkA 3 38 15 ?_
  refine tkA 5 40 47 ?_
  refine tkA 6 41 111 ?_
  refine tkA 7 42 239 ?_
  refine tkA 8 43 495 ?_
  refine rdA 4 511 (fun Kk hKk => ?_)
  go_simp
  refine (unhide H6 _).mono ?_
  rintro _ w7 ⟨rfl, hb⟩
  have HB := hide (bthen (unhide HB) hb)
  have HA := hide ((unhide HA).below hb)
  clear hb
  (try go_wp2_with fail)
  refine hKk.out _ _ ?_ (fun hHeld => ?_)
  · (try dsimp only)
    exact unhide HA
  clear hKk Kk
  (try simp only [List.setIfInBounds_toArray, List.set_cons_zero, List.set_cons_succ])
  refine rdA 9 1023 (fun Kk hKk => ?_)
  go_simp
  refine (unhide H7 _).mono ?_
  rintro _ w8 ⟨rfl, hb⟩
  have HB := hide (bthen (unhide HB) hb)
  have HA := hide ((unhide HA).below hb)
  clear hb
  (try go_wp2_with fail)
  refine hKk.out _ _ ?_ (fun hHeld => ?_)
  · (try dsimp only)
    exact unhide HA
  clear hKk Kk
  (try simp only [List.setIfInBounds_toArray, List.set_cons_zero, List.set_cons_succ])
  refine tkA 10 12 2047 ?_
  refine tkA 11 13 4095 ?_
  refine wpAnyH_done (by kernel_rfl) ?_ _
  clear hHeld HM
  go_wp2_with fail
  refine (unhide HK _).mono ?_
  rintro _ w9 ⟨rfl, hb⟩
  have HB := hide (bthen (unhide HB) hb)
  have HA := hide ((unhide HA).below hb)
  clear hb
  go_wp2_with fail
  go_ret
  exact ⟨by first | rfl | simp, unhide HB⟩
set_option maxHeartbeats 4000000 in
set_option maxRecDepth 100000 in
theorem counts_k {w a b f x1 x2 x3 x4 x5 ca cb : Int} {s u : Bool} (HA0 : Ct 4 #[] (.bool true)) (H1 : Ct 5 #[.int .i64 w, .int .u64 a] (.int .u64 x1)) (H2 : Cm 6 #[.int .i64 w, .int .u64 a] (.int .u64 x2)) (H3 : Ct 7 #[.int .i64 w, .int .u64 a] (.int .u64 x3)) (H4 : Ct 8 #[.int .i64 w, .int .u64 a, .int .u64 b] (.bool s)) (H5 : Ct 9 #[.int .i64 w, .int .u64 a, .int .u64 b] (.bool u)) (H6 : Ct 10 #[.int .i64 w, .int .i64 f, .int .u64 a, .bool true] (.int .u64 x4)) (H7 : Ct 10 #[.int .i64 w, .int .i64 f, .int .u64 a, .bool false] (.int .u64 x5)) (HK : Ct 11 #[.int .i64 w] (.bool true)) (R1 : Ct 12 #[.int .i64 w, .int .u64 a, .bool true] (.int .u64 x1)) (R2 : Ct 12 #[.int .i64 w, .int .u64 a, .bool false] (.int .u64 x2)) (R3 : Ct 13 #[.int .i64 w, .int .u64 a] (.int .u64 x3)) (R4 : Ct 14 #[.int .i64 w, .int .u64 a, .int .u64 b] (.bool s)) (C1 : Ct 15 #[.int .i64 w, .int .u64 a] (.int .u64 ca)) (C2 : Ct 15 #[.int .i64 w, .int .u64 b] (.int .u64 cb)) (hu : decide (ca < cb) = u) (R6 : Ct 16 #[.int .i64 w, .int .i64 f, .int .u64 a, .bool true] (.int .u64 x4)) (R7 : Ct 16 #[.int .i64 w, .int .i64 f, .int .u64 a, .bool false] (.int .u64 x5)) : Cm 3 #[.int .i64 w, .int .u64 a, .agg #[.int .u64 b, .int .i64 f]] (.bool true) := by
  refine hide (fun W hM => ?_)
  go_enter Tryd.func3, Tryd.ntmps3
  go_wp2_with fail
  have HB := hide (below1 W (.cells #[.int .u64 b, .int .i64 f] 24))
  have HM := hide (hM.below (unhide HB))
  have HA := hide (at2_one W (.int .u64 b) (.int .i64 f) 24)
  clear hM
  refine (unhide HA0 _).mono ?_
  rintro _ w1 ⟨rfl, hb⟩
  have HB := hide (bthen (unhide HB) hb)
  have HM := hide ((unhide HM).below hb)
  have HA := hide ((unhide HA).below hb)
  clear hb
  go_wp2_with fail
  refine (unhide H1 _).mono ?_
  rintro _ w2 ⟨rfl, hb⟩
  have HB := hide (bthen (unhide HB) hb)
  have HM := hide ((unhide HM).below hb)
  have HA := hide ((unhide HA).below hb)
  clear hb
  go_wp2_with fail
  refine (unhide H2 _ (unhide HM)).mono ?_
  rintro _ w3 ⟨rfl, hb⟩
  have HB := hide (bthen (unhide HB) hb)
  have HM := hide ((unhide HM).below hb)
  have HA := hide ((unhide HA).below hb)
  clear hb
  go_wp2_with fail
  refine (unhide H3 _).mono ?_
  rintro _ w4 ⟨rfl, hb⟩
  have HB := hide (bthen (unhide HB) hb)
  have HM := hide ((unhide HM).below hb)
  have HA := hide ((unhide HA).below hb)
  clear hb
  go_wp2_with fail
  have HB := hide ((unhide HB).drew)
  have HA := hide ((unhide HA).below ((Below.refl _ _).drew))
  refine wp_region_held_drew (S := fun w' => (w'.cell? ⟨W.heap.size, 0, none⟩ = some (.int .u64 b) ∧ w'.cell? ⟨W.heap.size, 1, none⟩ = some (.int .i64 f))) (by kernel_rfl) ?_ (fun hHeld => ?_)
  · (try dsimp only)
    exact unhide HA
  refine lst0 12 (by kernel_rfl) ?_
  refine tkA 0 25 1 ?_
  refine tkA 1 26 3 ?_
  refine tkA 2 27 7 ?_
  refine tkA 3 28 15 ?_
  refine tkA 5 30 47 ?_
  refine tkA 6 31 111 ?_
  refine tkA 7 32 239 ?_
  refine tkA 8 33 495 ?_
  refine rdA 4 511 (fun Kk hKk => ?_)
  go_simp
  refine (unhide H4 _).mono ?_
  rintro _ w5 ⟨rfl, hb⟩
  have HB := hide (bthen (unhide HB) hb)
  have HA := hide ((unhide HA).below hb)
  clear hb
  (try go_wp2_with fail)
  refine hKk.out _ _ ?_ (fun hHeld => ?_)
  · (try dsimp only)
    exact unhide HA
  clear hKk Kk
  (try simp only [List.setIfInBounds_toArray, List.set_cons_zero, List.set_cons_succ])
  refine rdA 9 1023 (fun Kk hKk => ?_)
  go_simp
  refine (unhide H5 _).mono ?_
  rintro _ w6 ⟨rfl, hb⟩
  have HB := hide (bthen (unhide HB) hb)
  have HA := hide ((unhide HA).below hb)
  clear hb
  (try go_wp2_with fail)
  refine hKk.out _ _ ?_ (fun hHeld => ?_)
  · (try dsimp only)
    exact unhide HA
  clear hKk Kk
  (try simp only [List.setIfInBounds_toArray, List.set_cons_zero, List.set_cons_succ])
  refine tkA 10 10 2047 ?_
  refine tkA 11 11 4095 ?_
  refine wpAnyH_done (by kernel_rfl) ?_ _
  clear hHeld
  go_wp2_with fail
  have HB := hide ((unhide HB).drew)
  have HA := hide ((unhide HA).below ((Below.refl _ _).drew))
  refine wp_region_held_drew (S := fun w' => (w'.cell? ⟨W.heap.size, 0, none⟩ = some (.int .u64 b) ∧ w'.cell? ⟨W.heap.size, 1, none⟩ = some (.int .i64 f))) (by kernel_rfl) ?_ (fun hHeld => ?_)
  · (try dsimp only)
    exact unhide HA
  refine lst0 12 (by kernel_rfl) ?_
  refine tkA 0 35 1 ?_
  refine tkA 1 36 3 ?_
  refine tkA 2 37 7 ?_
  refine tkA 3 38 15 ?_
  refine tkA 5 40 47 ?_
  refine tkA 6 41 111 ?_
  refine tkA 7 42 239 ?_
  refine tkA 8 43 495 ?_
  refine rdA 4 511 (fun Kk hKk => ?_)
  go_simp
  refine (unhide H6 _).mono ?_
  rintro _ w7 ⟨rfl, hb⟩
  have HB := hide (bthen (unhide HB) hb)
  have HA := hide ((unhide HA).below hb)
  clear hb
  (try go_wp2_with fail)
  refine hKk.out _ _ ?_ (fun hHeld => ?_)
  · (try dsimp only)
    exact unhide HA
  clear hKk Kk
  (try simp only [List.setIfInBounds_toArray, List.set_cons_zero, List.set_cons_succ])
  refine rdA 9 1023 (fun Kk hKk => ?_)
  go_simp
  refine (unhide H7 _).mono ?_
  rintro _ w8 ⟨rfl, hb⟩
  have HB := hide (bthen (unhide HB) hb)
  have HA := hide ((unhide HA).below hb)
  clear hb
  (try go_wp2_with fail)
  refine hKk.out _ _ ?_ (fun hHeld => ?_)
  · (try dsimp only)
    exact unhide HA
  clear hKk Kk
  (try simp only [List.setIfInBounds_toArray, List.set_cons_zero, List.set_cons_succ])
  refine tkA 10 12 2047 ?_
  refine tkA 11 13 4095 ?_
  refine wpAnyH_done (by kernel_rfl) ?_ _
  clear hHeld HM
  go_wp2_with fail
  refine (unhide HK _).mono ?_
  rintro _ w9 ⟨rfl, hb⟩
  have HB := hide (bthen (unhide HB) hb)
  have HA := hide ((unhide HA).below hb)
  clear hb
  go_wp2_with fail
  have HB := hide ((unhide HB).drew)
  have HA := hide ((unhide HA).below ((Below.refl _ _).drew))
  refine wp_region_held_drew (S := fun w' => (w'.cell? ⟨W.heap.size, 0, none⟩ = some (.int .u64 b) ∧ w'.cell? ⟨W.heap.size, 1, none⟩ = some (.int .i64 f))) (by kernel_rfl) ?_ (fun hHeld => ?_)
  · (try dsimp only)
    exact unhide HA
  refine lst0 59 (by kernel_rfl) ?_
  refine tkA 0 66 1 ?_
  refine tkA 1 67 3 ?_
  refine tkA 2 68 7 ?_
  refine rdA 3 15 (fun Kk hKk => ?_)
  go_simp
  refine (unhide R1 _).mono ?_
  rintro _ w10 ⟨rfl, hb⟩
  have HB := hide (bthen (unhide HB) hb)
  have HA := hide ((unhide HA).below hb)
  clear hb
  (try go_wp2_with fail)
  refine hKk.out _ _ ?_ (fun hHeld => ?_)
  · (try dsimp only)
    exact unhide HA
  clear hKk Kk
  (try simp only [List.setIfInBounds_toArray, List.set_cons_zero, List.set_cons_succ])
  refine tkA 4 70 31 ?_
  refine tkA 5 71 63 ?_
  refine tkA 6 72 127 ?_
  refine tkA 7 73 255 ?_
  refine tkA 8 74 511 ?_
  refine rdA 9 1023 (fun Kk hKk => ?_)
  go_simp
  refine (unhide R2 _).mono ?_
  rintro _ w11 ⟨rfl, hb⟩
  have HB := hide (bthen (unhide HB) hb)
  have HA := hide ((unhide HA).below hb)
  clear hb
  (try go_wp2_with fail)
  refine hKk.out _ _ ?_ (fun hHeld => ?_)
  · (try dsimp only)
    exact unhide HA
  clear hKk Kk
  (try simp only [List.setIfInBounds_toArray, List.set_cons_zero, List.set_cons_succ])
  refine tkA 10 76 2047 ?_
  refine tkA 11 77 4095 ?_
  refine tkA 12 78 8191 ?_
  refine tkA 13 79 16383 ?_
  refine tkA 14 80 32767 ?_
  refine tkA 15 81 65535 ?_
  refine rdA 16 131071 (fun Kk hKk => ?_)
  go_simp
  refine (unhide R3 _).mono ?_
  rintro _ w12 ⟨rfl, hb⟩
  have HB := hide (bthen (unhide HB) hb)
  have HA := hide ((unhide HA).below hb)
  clear hb
  (try go_wp2_with fail)
  refine hKk.out _ _ ?_ (fun hHeld => ?_)
  · (try dsimp only)
    exact unhide HA
  clear hKk Kk
  (try simp only [List.setIfInBounds_toArray, List.set_cons_zero, List.set_cons_succ])
  refine tkA 17 83 262143 ?_
  refine tkA 18 84 524287 ?_
  refine tkA 19 85 1048575 ?_
  refine tkA 20 86 2097151 ?_
  refine tkA 21 87 4194303 ?_
  refine tkA 22 88 8388607 ?_
  refine tkA 23 89 16777215 ?_
  refine tkA 24 90 33554431 ?_
  refine rdA 25 67108863 (fun Kk hKk => ?_)
  go_simp
  refine (unhide R4 _).mono ?_
  rintro _ w13 ⟨rfl, hb⟩
  have HB := hide (bthen (unhide HB) hb)
  have HA := hide ((unhide HA).below hb)
  clear hb
  (try go_wp2_with fail)
  refine hKk.out _ _ ?_ (fun hHeld => ?_)
  · (try dsimp only)
    exact unhide HA
  clear hKk Kk
  (try simp only [List.setIfInBounds_toArray, List.set_cons_zero, List.set_cons_succ])
  refine tkA 26 92 134217727 ?_
  refine tkA 27 93 268435455 ?_
  refine tkA 28 94 536870911 ?_
  refine tkA 29 95 1073741823 ?_
  refine tkA 30 96 2147483647 ?_
  refine tkA 31 97 4294967295 ?_
  refine tkA 33 99 12884901887 ?_
  refine tkA 34 100 30064771071 ?_
  refine tkA 35 101 64424509439 ?_
  refine rdA 32 68719476735 (fun Kk hKk => ?_)
  go_simp
  refine (unhide C1 _).mono ?_
  rintro _ w14 ⟨rfl, hb⟩
  have HB := hide (bthen (unhide HB) hb)
  have HA := hide ((unhide HA).below hb)
  clear hb
  (try go_wp2_with fail)
  refine hKk.out _ _ ?_ (fun hHeld => ?_)
  · (try dsimp only)
    exact unhide HA
  clear hKk Kk
  (try simp only [List.setIfInBounds_toArray, List.set_cons_zero, List.set_cons_succ])
  refine rdA 36 137438953471 (fun Kk hKk => ?_)
  go_simp
  refine (unhide C2 _).mono ?_
  rintro _ w15 ⟨rfl, hb⟩
  have HB := hide (bthen (unhide HB) hb)
  have HA := hide ((unhide HA).below hb)
  clear hb
  (try go_wp2_with fail)
  refine hKk.out _ _ ?_ (fun hHeld => ?_)
  · (try dsimp only)
    exact unhide HA
  clear hKk Kk
  (try simp only [List.setIfInBounds_toArray, List.set_cons_zero, List.set_cons_succ])
  refine tkA 37 103 274877906943 ?_
  refine tkA 38 104 549755813887 ?_
  refine tkA 39 105 1099511627775 ?_
  refine tkA 40 106 2199023255551 ?_
  refine tkA 41 107 4398046511103 ?_
  refine tkA 42 108 8796093022207 ?_
  refine tkA 43 109 17592186044415 ?_
  refine tkA 44 110 35184372088831 ?_
  refine tkA 45 111 70368744177663 ?_
  refine rdA 46 140737488355327 (fun Kk hKk => ?_)
  go_simp
  refine (unhide R6 _).mono ?_
  rintro _ w16 ⟨rfl, hb⟩
  have HB := hide (bthen (unhide HB) hb)
  have HA := hide ((unhide HA).below hb)
  clear hb
  (try go_wp2_with fail)
  refine hKk.out _ _ ?_ (fun hHeld => ?_)
  · (try dsimp only)
    exact unhide HA
  clear hKk Kk
  (try simp only [List.setIfInBounds_toArray, List.set_cons_zero, List.set_cons_succ])
  refine tkA 47 113 281474976710655 ?_
  refine tkA 48 114 562949953421311 ?_
  refine tkA 49 115 1125899906842623 ?_
  refine tkA 50 116 2251799813685247 ?_
  refine tkA 51 117 4503599627370495 ?_
  refine tkA 52 118 9007199254740991 ?_
  refine tkA 53 119 18014398509481983 ?_
  refine tkA 54 120 36028797018963967 ?_
  refine rdA 55 72057594037927935 (fun Kk hKk => ?_)
  go_simp
  refine (unhide R7 _).mono ?_
  rintro _ w17 ⟨rfl, hb⟩
  have HB := hide (bthen (unhide HB) hb)
  have HA := hide ((unhide HA).below hb)
  clear hb
  (try go_wp2_with fail)
  refine hKk.out _ _ ?_ (fun hHeld => ?_)
  · (try dsimp only)
    exact unhide HA
  clear hKk Kk
  (try simp only [List.setIfInBounds_toArray, List.set_cons_zero, List.set_cons_succ])
  refine tkA 56 122 144115188075855871 ?_
  refine tkA 57 123 288230376151711743 ?_
  refine tkA 58 6 576460752303423487 ?_
  refine wpAnyH_done (by kernel_rfl) ?_ _
  clear hHeld
  go_wp2_with fail
  go_ret
  exact ⟨by simp, unhide HB⟩
end Go.Proofs.YtjlegmgpgfjciaaDoor
