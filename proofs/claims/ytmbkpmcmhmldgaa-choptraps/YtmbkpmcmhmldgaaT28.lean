/- ChW, ChRb. -/
import Derived.Test.YtmbkpmcmhmldgaaT01
import Derived.Test.YtmbkpmcmhmldgaaT27
namespace Go.Proofs.Ytmbkpmcmhmldgaa
open Go.RowKit

set_option maxHeartbeats 4000000 in
set_option maxRecDepth 100000 in
theorem awake_l (W : World) (H1 : Ct 6 #[.int .i64 64, .int .i64 32, .int .u64 13829653735729319117, .bool false] (.tuple #[.int .u64 0, .int .i64 0])) (H2 : Ct 6 #[.int .i64 64, .int .i64 32, .int .u64 13840687554816376832, .bool false] (.tuple #[.int .u64 0, .int .i64 3])) (H3 : Ct 7 #[.int .i64 64, .int .i64 32, .int .u64 13840687554816376832, .bool false] (.int .u64 0)) (H4 : Ct 7 #[.int .i64 64, .int .i64 32, .int .u64 4617315517961601024, .bool true] (.int .u64 5)) :
    Calls Try.prog 5 #[] W fun r W' => r = .returned (.bool true) ∧ Below W.heap.size W W' := by
  have HB := hide (Below.refl W.heap.size W)
  go_enter Try.func5, Try.ntmps5
  go_wp2_with fail
  refine (unhide H1 _).mono ?_
  rintro _ w1 ⟨rfl, hb⟩
  have HB := hide (bthen (unhide HB) hb)
  clear hb
  go_wp2_with fail
  refine (unhide H2 _).mono ?_
  rintro _ w2 ⟨rfl, hb⟩
  have HB := hide (bthen (unhide HB) hb)
  clear hb
  go_wp2_with fail
  refine (unhide H3 _).mono ?_
  rintro _ w3 ⟨rfl, hb⟩
  have HB := hide (bthen (unhide HB) hb)
  clear hb
  go_wp2_with fail
  refine (unhide H4 _).mono ?_
  rintro _ w4 ⟨rfl, hb⟩
  have HB := hide (bthen (unhide HB) hb)
  clear hb
  go_wp2_with fail
  go_ret
  exact ⟨by simp, unhide HB⟩
end Go.Proofs.Ytmbkpmcmhmldgaa
namespace Go.Proofs.Ytmbkpmcmhmldgaa
open Go.RowKit
open Go.Proofs.Ytmbkpmcmhmldgaa.W

set_option maxHeartbeats 4000000 in
set_option maxRecDepth 100000 in
theorem rchop_gt_t {w k x X S dc L : Int} {s : Bool} {z : Nat} {dl : Bool} (W : World) (HO : Ct 17 #[.int .i64 w, .int .u64 x] (.agg #[.bool true, .int .i64 1, .int .i64 X, .int .u64 S])) (HD : Hid (∀ W, Calls Try.prog 19 #[.agg #[.bool true, .int .i64 1, .int .i64 X, .int .u64 S]] W fun e w' => ∃ s, e = .returned (.tuple #[.agg #[s], .int .i64 dc, .bool dl]) ∧ IsNat w' s z ∧ Below W.heap.size W w')) (HE : Ct 10 #[.int .i64 k, .bool s] (.int .u64 L)) (L0 : 0 ≤ L) (L1 : L < 18446744073709551616) (g : decide (0 < cmpN z L.toNat) = true) :
    Calls Try.prog 12 #[.int .i64 w, .int .i64 k, .int .u64 x, .bool s] W fun r W' => r = .returned (.tuple #[.int .i64 2, .int .u64 0]) ∧ Below W.heap.size W W' := by
  go_enter Try.func12, Try.ntmps12
  go_wp2_with fail
  refine (unhide HO _).mono ?_
  rintro _ w1 ⟨rfl, hb⟩
  have zw := hb.size
  have HB := hide (balloc hb (.cells #[.bool true, .int .i64 1, .int .i64 X, .int .u64 S] 44))
  have HA := hide (at4_new w1 (.bool true) (.int .i64 1) (.int .i64 X) (.int .u64 S) 44)
  clear hb
  obtain ⟨c0, c1, c2, c3⟩ := unhide HA
  go_wp2_with fail
  clear c0 c1 c2 c3
  refine (refOf_any 0 _ (by omega) (by omega)).mono ?_
  rintro _ w2 ⟨s2, rfl, hN, hb⟩
  obtain ⟨a2, m2, c2, rfl⟩ := hN.slice
  change IsNat _ _ 0 at hN
  have HB := hide (balloc (bthen (unhide HB) hb) (.cells #[.slice a2 m2 c2] 48))
  have HA := hide (((unhide HA).below hb).below (below1 w2 (.cells #[.slice a2 m2 c2] 48)))
  have HN := hide (hN.below (below1 w2 (.cells #[.slice a2 m2 c2] 48)))
  have HC0 : Hid ((w2.alloc (.cells #[.slice a2 m2 c2] 48)).cell? ⟨w2.heap.size, 0, none⟩ = some (.slice a2 m2 c2) ∧ (w2.alloc (.cells #[.slice a2 m2 c2] 48)).frozen? ⟨w2.heap.size, 0, none⟩ = false) := by unfold Hid; simp [go_sem]
  have zb : w1.heap.size < w2.heap.size := by have := hb.size; simp at this; omega
  clear hb hN
  generalize hx2 : w2.heap.size = b2 at *
  obtain ⟨c0, c1, c2', c3⟩ := unhide HA
  go_wp2_with fail
  clear c0 c1 c2' c3
  refine (unhide HD _).mono ?_
  rintro _ w3 ⟨s3, rfl, hN, hb⟩
  obtain ⟨a3, m3, c3, rfl⟩ := hN.slice
  have HB := hide (bthen (unhide HB) hb)
  have HA := hide ((unhide HA).below hb)
  have HC0 := hide (And.intro (keep1 hb (lt_of_cell (unhide HC0).1) (unhide HC0).1) ((hb.frozen (lt_of_cell (unhide HC0).1)).trans (unhide HC0).2))
  have HN := hide hN
  clear hb hN
  obtain ⟨d0, d1⟩ := unhide HC0
  have HB := hide (bset (unhide HB) b2 (by omega) 0 (.slice a3 m3 c3))
  have HA := hide (At4.set (unhide HA) (show w1.heap.size ≠ b2 by omega) 0 (.slice a3 m3 c3))
  have HN := hide ((unhide HN).store (unhide HC0).1 (.slice a3 m3 c3))
  have HC0 := hide (World.cell?_setCell_same _ _ (.slice a3 m3 c3) (unhide HC0).1)
  go_wp2_with fail
  clear d0 d1
  generalize w3.setCell ⟨b2, 0, none⟩ (.slice a3 m3 c3) = w4 at *
  have HB := hide ((unhide HB).drew)
  have HA := hide ((unhide HA).below ((Below.refl _ _).drew))
  have HN := hide ((unhide HN).below ((Below.refl _ _).drew))
  have HC0 := hide (keep1 ((Below.refl _ _).drew) (lt_of_cell (unhide HC0)) (unhide HC0))
  refine wp_region_held_drew (S := fun w' => (w'.cell? ⟨w1.heap.size, 0, none⟩ = some (.bool true) ∧ w'.cell? ⟨w1.heap.size, 1, none⟩ = some (.int .i64 1) ∧ w'.cell? ⟨w1.heap.size, 2, none⟩ = some (.int .i64 X) ∧ w'.cell? ⟨w1.heap.size, 3, none⟩ = some (.int .u64 S)) ∧ w'.cell? ⟨b2, 0, none⟩ = some (.slice a3 m3 c3)) (by kernel_rfl) ?_ (fun hHeld => ?_)
  · (try dsimp only)
    exact ⟨unhide HA, unhide HC0⟩
  refine lst0 16 (by kernel_rfl) ?_
  refine tkA 0 29 1 ?_
  refine tkA 1 30 3 ?_
  refine tkA 2 31 7 ?_
  refine tkA 3 32 15 ?_
  refine tkA 4 33 31 ?_
  refine tkA 5 34 63 ?_
  refine tkA 6 35 127 ?_
  refine tkA 7 36 255 ?_
  refine tkA 8 37 511 ?_
  refine tkA 9 38 1023 ?_
  refine rdA 10 2047 (fun Kk hKk => ?_)
  go_simp
  refine (unhide HE _).mono ?_
  rintro _ w5 ⟨rfl, hb⟩
  have HB := hide (bthen (unhide HB) hb)
  have HA := hide ((unhide HA).below hb)
  have HN := hide ((unhide HN).below hb)
  have HC0 := hide (keep1 hb (lt_of_cell (unhide HC0)) (unhide HC0))
  clear hb
  (try go_wp2_with fail)
  refine hKk.out _ _ ?_ (fun hHeld => ?_)
  · (try dsimp only)
    exact ⟨unhide HA, unhide HC0⟩
  clear hKk Kk
  (try simp only [List.setIfInBounds_toArray, List.set_cons_zero, List.set_cons_succ])
  refine rdA 11 4095 (fun Kk hKk => ?_)
  go_simp
  refine (refOf_any L _ L0 L1).mono ?_
  rintro _ w6 ⟨s6, rfl, hN, hb⟩
  obtain ⟨a6, m6, c6, rfl⟩ := hN.slice
  have HB := hide (bthen (unhide HB) hb)
  have HA := hide ((unhide HA).below hb)
  have HN := hide ((unhide HN).below hb)
  have HC0 := hide (keep1 hb (lt_of_cell (unhide HC0)) (unhide HC0))
  have H6 := hide hN
  clear hb hN
  (try go_wp2_with fail)
  refine hKk.out _ _ ?_ (fun hHeld => ?_)
  · (try dsimp only)
    exact ⟨unhide HA, unhide HC0⟩
  clear hKk Kk
  (try simp only [List.setIfInBounds_toArray, List.set_cons_zero, List.set_cons_succ])
  refine rdA 12 8191 (fun Kk hKk => ?_)
  go_simp
  refine (refCmp_any _ _ _ _ _ _ _ _ _ (unhide HN) (unhide H6)).mono ?_
  rintro _ w7 ⟨rfl, hb⟩
  have HB := hide (bthen (unhide HB) hb)
  have HA := hide ((unhide HA).below hb)
  have HN := hide ((unhide HN).below hb)
  have HC0 := hide (keep1 hb (lt_of_cell (unhide HC0)) (unhide HC0))
  clear hb H6
  (try go_wp2_with fail)
  refine hKk.out _ _ ?_ (fun hHeld => ?_)
  · (try dsimp only)
    exact ⟨unhide HA, unhide HC0⟩
  clear hKk Kk
  (try simp only [List.setIfInBounds_toArray, List.set_cons_zero, List.set_cons_succ])
  refine tkA 13 42 16383 ?_
  refine tkA 14 43 32767 ?_
  refine tkA 15 44 65535 ?_
  refine wpAnyH_done (by kernel_rfl) ?_ _
  clear hHeld
  go_wp2_with fail
  go_ret2
  exact ⟨rfl, unhide HB⟩
set_option maxHeartbeats 4000000 in
set_option maxRecDepth 100000 in
theorem rchop_gt_f {w k x X S dc L : Int} {s : Bool} {z : Nat} {dl : Bool} (W : World) (HO : Ct 17 #[.int .i64 w, .int .u64 x] (.agg #[.bool false, .int .i64 1, .int .i64 X, .int .u64 S])) (HD : Hid (∀ W, Calls Try.prog 19 #[.agg #[.bool false, .int .i64 1, .int .i64 X, .int .u64 S]] W fun e w' => ∃ s, e = .returned (.tuple #[.agg #[s], .int .i64 dc, .bool dl]) ∧ IsNat w' s z ∧ Below W.heap.size W w')) (HE : Ct 11 #[.int .i64 k, .bool s] (.int .u64 L)) (L0 : 0 ≤ L) (L1 : L < 18446744073709551616) (g : decide (0 < cmpN z L.toNat) = true) :
    Calls Try.prog 12 #[.int .i64 w, .int .i64 k, .int .u64 x, .bool s] W fun r W' => r = .returned (.tuple #[.int .i64 3, .int .u64 0]) ∧ Below W.heap.size W W' := by
  go_enter Try.func12, Try.ntmps12
  go_wp2_with fail
  refine (unhide HO _).mono ?_
  rintro _ w1 ⟨rfl, hb⟩
  have zw := hb.size
  have HB := hide (balloc hb (.cells #[.bool false, .int .i64 1, .int .i64 X, .int .u64 S] 44))
  have HA := hide (at4_new w1 (.bool false) (.int .i64 1) (.int .i64 X) (.int .u64 S) 44)
  clear hb
  obtain ⟨c0, c1, c2, c3⟩ := unhide HA
  go_wp2_with fail
  clear c0 c1 c2 c3
  refine (refOf_any 0 _ (by omega) (by omega)).mono ?_
  rintro _ w2 ⟨s2, rfl, hN, hb⟩
  obtain ⟨a2, m2, c2, rfl⟩ := hN.slice
  change IsNat _ _ 0 at hN
  have HB := hide (balloc (bthen (unhide HB) hb) (.cells #[.slice a2 m2 c2] 48))
  have HA := hide (((unhide HA).below hb).below (below1 w2 (.cells #[.slice a2 m2 c2] 48)))
  have HN := hide (hN.below (below1 w2 (.cells #[.slice a2 m2 c2] 48)))
  have HC0 : Hid ((w2.alloc (.cells #[.slice a2 m2 c2] 48)).cell? ⟨w2.heap.size, 0, none⟩ = some (.slice a2 m2 c2) ∧ (w2.alloc (.cells #[.slice a2 m2 c2] 48)).frozen? ⟨w2.heap.size, 0, none⟩ = false) := by unfold Hid; simp [go_sem]
  have zb : w1.heap.size < w2.heap.size := by have := hb.size; simp at this; omega
  clear hb hN
  generalize hx2 : w2.heap.size = b2 at *
  obtain ⟨c0, c1, c2', c3⟩ := unhide HA
  go_wp2_with fail
  clear c0 c1 c2' c3
  refine (unhide HD _).mono ?_
  rintro _ w3 ⟨s3, rfl, hN, hb⟩
  obtain ⟨a3, m3, c3, rfl⟩ := hN.slice
  have HB := hide (bthen (unhide HB) hb)
  have HA := hide ((unhide HA).below hb)
  have HC0 := hide (And.intro (keep1 hb (lt_of_cell (unhide HC0).1) (unhide HC0).1) ((hb.frozen (lt_of_cell (unhide HC0).1)).trans (unhide HC0).2))
  have HN := hide hN
  clear hb hN
  obtain ⟨d0, d1⟩ := unhide HC0
  have HB := hide (bset (unhide HB) b2 (by omega) 0 (.slice a3 m3 c3))
  have HA := hide (At4.set (unhide HA) (show w1.heap.size ≠ b2 by omega) 0 (.slice a3 m3 c3))
  have HN := hide ((unhide HN).store (unhide HC0).1 (.slice a3 m3 c3))
  have HC0 := hide (World.cell?_setCell_same _ _ (.slice a3 m3 c3) (unhide HC0).1)
  go_wp2_with fail
  clear d0 d1
  generalize w3.setCell ⟨b2, 0, none⟩ (.slice a3 m3 c3) = w4 at *
  have HB := hide ((unhide HB).drew)
  have HA := hide ((unhide HA).below ((Below.refl _ _).drew))
  have HN := hide ((unhide HN).below ((Below.refl _ _).drew))
  have HC0 := hide (keep1 ((Below.refl _ _).drew) (lt_of_cell (unhide HC0)) (unhide HC0))
  refine wp_region_held_drew (S := fun w' => (w'.cell? ⟨w1.heap.size, 0, none⟩ = some (.bool false) ∧ w'.cell? ⟨w1.heap.size, 1, none⟩ = some (.int .i64 1) ∧ w'.cell? ⟨w1.heap.size, 2, none⟩ = some (.int .i64 X) ∧ w'.cell? ⟨w1.heap.size, 3, none⟩ = some (.int .u64 S)) ∧ w'.cell? ⟨b2, 0, none⟩ = some (.slice a3 m3 c3)) (by kernel_rfl) ?_ (fun hHeld => ?_)
  · (try dsimp only)
    exact ⟨unhide HA, unhide HC0⟩
  refine lst0 16 (by kernel_rfl) ?_
  refine tkA 0 29 1 ?_
  refine tkA 1 30 3 ?_
  refine tkA 2 31 7 ?_
  refine tkU 3 32 15 ?_
  refine tkU 4 33 31 ?_
  refine tkU 5 34 63 ?_
  refine tkU 6 35 127 ?_
  refine tkU 7 36 255 ?_
  refine tkU 8 37 511 ?_
  refine tkU 9 38 1023 ?_
  refine rdA 10 2047 (fun Kk hKk => ?_)
  go_simp
  refine hKk.out _ _ ?_ (fun hHeld => ?_)
  · (try dsimp only)
    exact hHeld
  clear hKk Kk
  (try simp only [List.setIfInBounds_toArray, List.set_cons_zero, List.set_cons_succ])
  refine rdA 11 4095 (fun Kk hKk => ?_)
  go_simp
  refine hKk.out _ _ ?_ (fun hHeld => ?_)
  · (try dsimp only)
    exact hHeld
  clear hKk Kk
  (try simp only [List.setIfInBounds_toArray, List.set_cons_zero, List.set_cons_succ])
  refine rdA 12 8191 (fun Kk hKk => ?_)
  go_simp
  refine hKk.out _ _ ?_ (fun hHeld => ?_)
  · (try dsimp only)
    exact hHeld
  clear hKk Kk
  (try simp only [List.setIfInBounds_toArray, List.set_cons_zero, List.set_cons_succ])
  refine tkU 13 42 16383 ?_
  refine tkU 14 43 32767 ?_
  refine tkA 15 44 65535 ?_
  refine wpAnyH_done (by kernel_rfl) ?_ _
  clear hHeld
  obtain ⟨e0, e1, e2, e3⟩ := unhide HA
  have e4 := unhide HC0
  go_wp2_with fail
  clear e0 e1 e2 e3 e4
  have HB := hide ((unhide HB).drew)
  have HA := hide ((unhide HA).below ((Below.refl _ _).drew))
  have HN := hide ((unhide HN).below ((Below.refl _ _).drew))
  have HC0 := hide (keep1 ((Below.refl _ _).drew) (lt_of_cell (unhide HC0)) (unhide HC0))
  refine wp_region_held_drew (S := fun w' => (w'.cell? ⟨w1.heap.size, 0, none⟩ = some (.bool false) ∧ w'.cell? ⟨w1.heap.size, 1, none⟩ = some (.int .i64 1) ∧ w'.cell? ⟨w1.heap.size, 2, none⟩ = some (.int .i64 X) ∧ w'.cell? ⟨w1.heap.size, 3, none⟩ = some (.int .u64 S)) ∧ w'.cell? ⟨b2, 0, none⟩ = some (.slice a3 m3 c3)) (by kernel_rfl) ?_ (fun hHeld => ?_)
  · (try dsimp only)
    exact ⟨unhide HA, unhide HC0⟩
  refine lst0 17 (by kernel_rfl) ?_
  refine tkA 0 45 1 ?_
  refine tkA 1 46 3 ?_
  refine tkA 2 47 7 ?_
  refine tkA 3 48 15 ?_
  refine tkA 4 49 31 ?_
  refine tkA 5 50 63 ?_
  refine tkA 6 51 127 ?_
  refine tkA 7 52 255 ?_
  refine tkA 8 53 511 ?_
  refine tkA 9 54 1023 ?_
  refine tkA 10 55 2047 ?_
  refine rdA 11 4095 (fun Kk hKk => ?_)
  go_simp
  refine (unhide HE _).mono ?_
  rintro _ w5 ⟨rfl, hb⟩
  have HB := hide (bthen (unhide HB) hb)
  have HA := hide ((unhide HA).below hb)
  have HN := hide ((unhide HN).below hb)
  have HC0 := hide (keep1 hb (lt_of_cell (unhide HC0)) (unhide HC0))
  clear hb
  (try go_wp2_with fail)
  refine hKk.out _ _ ?_ (fun hHeld => ?_)
  · (try dsimp only)
    exact ⟨unhide HA, unhide HC0⟩
  clear hKk Kk
  (try simp only [List.setIfInBounds_toArray, List.set_cons_zero, List.set_cons_succ])
  refine rdA 12 8191 (fun Kk hKk => ?_)
  go_simp
  refine (refOf_any L _ L0 L1).mono ?_
  rintro _ w6 ⟨s6, rfl, hN, hb⟩
  obtain ⟨a6, m6, c6, rfl⟩ := hN.slice
  have HB := hide (bthen (unhide HB) hb)
  have HA := hide ((unhide HA).below hb)
  have HN := hide ((unhide HN).below hb)
  have HC0 := hide (keep1 hb (lt_of_cell (unhide HC0)) (unhide HC0))
  have H6 := hide hN
  clear hb hN
  (try go_wp2_with fail)
  refine hKk.out _ _ ?_ (fun hHeld => ?_)
  · (try dsimp only)
    exact ⟨unhide HA, unhide HC0⟩
  clear hKk Kk
  (try simp only [List.setIfInBounds_toArray, List.set_cons_zero, List.set_cons_succ])
  refine rdA 13 16383 (fun Kk hKk => ?_)
  go_simp
  refine (refCmp_any _ _ _ _ _ _ _ _ _ (unhide HN) (unhide H6)).mono ?_
  rintro _ w7 ⟨rfl, hb⟩
  have HB := hide (bthen (unhide HB) hb)
  have HA := hide ((unhide HA).below hb)
  have HN := hide ((unhide HN).below hb)
  have HC0 := hide (keep1 hb (lt_of_cell (unhide HC0)) (unhide HC0))
  clear hb H6
  (try go_wp2_with fail)
  refine hKk.out _ _ ?_ (fun hHeld => ?_)
  · (try dsimp only)
    exact ⟨unhide HA, unhide HC0⟩
  clear hKk Kk
  (try simp only [List.setIfInBounds_toArray, List.set_cons_zero, List.set_cons_succ])
  refine tkA 14 59 32767 ?_
  refine tkA 15 60 65535 ?_
  refine tkA 16 61 131071 ?_
  refine wpAnyH_done (by kernel_rfl) ?_ _
  clear hHeld
  go_wp2_with fail
  go_ret2
  exact ⟨rfl, unhide HB⟩
set_option maxHeartbeats 4000000 in
set_option maxRecDepth 100000 in
theorem rchop_z_t {w k x X S dc L m V : Int} {s : Bool} {z : Nat} {dl : Bool} (W : World) (HO : Ct 17 #[.int .i64 w, .int .u64 x] (.agg #[.bool true, .int .i64 1, .int .i64 X, .int .u64 S])) (HD : Hid (∀ W, Calls Try.prog 19 #[.agg #[.bool true, .int .i64 1, .int .i64 X, .int .u64 S]] W fun e w' => ∃ s, e = .returned (.tuple #[.agg #[s], .int .i64 dc, .bool dl]) ∧ IsNat w' s z ∧ Below W.heap.size W w')) (HE : Ct 10 #[.int .i64 k, .bool s] (.int .u64 L)) (L0 : 0 ≤ L) (L1 : L < 18446744073709551616) (g : decide (0 < cmpN z L.toNat) = false) (hm : lo z = m) (gm : decide (0 < m) = false) (HC : Ct 22 #[.int .i64 k, .int .u64 m] (.int .u64 V)) :
    Calls Try.prog 12 #[.int .i64 w, .int .i64 k, .int .u64 x, .bool s] W fun r W' => r = .returned (.tuple #[.int .i64 0, .int .u64 V]) ∧ Below W.heap.size W W' := by
  go_enter Try.func12, Try.ntmps12
  go_wp2_with fail
  refine (unhide HO _).mono ?_
  rintro _ w1 ⟨rfl, hb⟩
  have zw := hb.size
  have HB := hide (balloc hb (.cells #[.bool true, .int .i64 1, .int .i64 X, .int .u64 S] 44))
  have HA := hide (at4_new w1 (.bool true) (.int .i64 1) (.int .i64 X) (.int .u64 S) 44)
  clear hb
  obtain ⟨c0, c1, c2, c3⟩ := unhide HA
  go_wp2_with fail
  clear c0 c1 c2 c3
  refine (refOf_any 0 _ (by omega) (by omega)).mono ?_
  rintro _ w2 ⟨s2, rfl, hN, hb⟩
  obtain ⟨a2, m2, c2, rfl⟩ := hN.slice
  change IsNat _ _ 0 at hN
  have HB := hide (balloc (bthen (unhide HB) hb) (.cells #[.slice a2 m2 c2] 48))
  have HA := hide (((unhide HA).below hb).below (below1 w2 (.cells #[.slice a2 m2 c2] 48)))
  have HN := hide (hN.below (below1 w2 (.cells #[.slice a2 m2 c2] 48)))
  have HC0 : Hid ((w2.alloc (.cells #[.slice a2 m2 c2] 48)).cell? ⟨w2.heap.size, 0, none⟩ = some (.slice a2 m2 c2) ∧ (w2.alloc (.cells #[.slice a2 m2 c2] 48)).frozen? ⟨w2.heap.size, 0, none⟩ = false) := by unfold Hid; simp [go_sem]
  have zb : w1.heap.size < w2.heap.size := by have := hb.size; simp at this; omega
  clear hb hN
  generalize hx2 : w2.heap.size = b2 at *
  obtain ⟨c0, c1, c2', c3⟩ := unhide HA
  go_wp2_with fail
  clear c0 c1 c2' c3
  refine (unhide HD _).mono ?_
  rintro _ w3 ⟨s3, rfl, hN, hb⟩
  obtain ⟨a3, m3, c3, rfl⟩ := hN.slice
  have HB := hide (bthen (unhide HB) hb)
  have HA := hide ((unhide HA).below hb)
  have HC0 := hide (And.intro (keep1 hb (lt_of_cell (unhide HC0).1) (unhide HC0).1) ((hb.frozen (lt_of_cell (unhide HC0).1)).trans (unhide HC0).2))
  have HN := hide hN
  clear hb hN
  obtain ⟨d0, d1⟩ := unhide HC0
  have HB := hide (bset (unhide HB) b2 (by omega) 0 (.slice a3 m3 c3))
  have HA := hide (At4.set (unhide HA) (show w1.heap.size ≠ b2 by omega) 0 (.slice a3 m3 c3))
  have HN := hide ((unhide HN).store (unhide HC0).1 (.slice a3 m3 c3))
  have HC0 := hide (World.cell?_setCell_same _ _ (.slice a3 m3 c3) (unhide HC0).1)
  go_wp2_with fail
  clear d0 d1
  generalize w3.setCell ⟨b2, 0, none⟩ (.slice a3 m3 c3) = w4 at *
  have HB := hide ((unhide HB).drew)
  have HA := hide ((unhide HA).below ((Below.refl _ _).drew))
  have HN := hide ((unhide HN).below ((Below.refl _ _).drew))
  have HC0 := hide (keep1 ((Below.refl _ _).drew) (lt_of_cell (unhide HC0)) (unhide HC0))
  refine wp_region_held_drew (S := fun w' => (w'.cell? ⟨w1.heap.size, 0, none⟩ = some (.bool true) ∧ w'.cell? ⟨w1.heap.size, 1, none⟩ = some (.int .i64 1) ∧ w'.cell? ⟨w1.heap.size, 2, none⟩ = some (.int .i64 X) ∧ w'.cell? ⟨w1.heap.size, 3, none⟩ = some (.int .u64 S)) ∧ w'.cell? ⟨b2, 0, none⟩ = some (.slice a3 m3 c3)) (by kernel_rfl) ?_ (fun hHeld => ?_)
  · (try dsimp only)
    exact ⟨unhide HA, unhide HC0⟩
  refine lst0 16 (by kernel_rfl) ?_
  refine tkA 0 29 1 ?_
  refine tkA 1 30 3 ?_
  refine tkA 2 31 7 ?_
  refine tkA 3 32 15 ?_
  refine tkA 4 33 31 ?_
  refine tkA 5 34 63 ?_
  refine tkA 6 35 127 ?_
  refine tkA 7 36 255 ?_
  refine tkA 8 37 511 ?_
  refine tkA 9 38 1023 ?_
  refine rdA 10 2047 (fun Kk hKk => ?_)
  go_simp
  refine (unhide HE _).mono ?_
  rintro _ w5 ⟨rfl, hb⟩
  have HB := hide (bthen (unhide HB) hb)
  have HA := hide ((unhide HA).below hb)
  have HN := hide ((unhide HN).below hb)
  have HC0 := hide (keep1 hb (lt_of_cell (unhide HC0)) (unhide HC0))
  clear hb
  (try go_wp2_with fail)
  refine hKk.out _ _ ?_ (fun hHeld => ?_)
  · (try dsimp only)
    exact ⟨unhide HA, unhide HC0⟩
  clear hKk Kk
  (try simp only [List.setIfInBounds_toArray, List.set_cons_zero, List.set_cons_succ])
  refine rdA 11 4095 (fun Kk hKk => ?_)
  go_simp
  refine (refOf_any L _ L0 L1).mono ?_
  rintro _ w6 ⟨s6, rfl, hN, hb⟩
  obtain ⟨a6, m6, c6, rfl⟩ := hN.slice
  have HB := hide (bthen (unhide HB) hb)
  have HA := hide ((unhide HA).below hb)
  have HN := hide ((unhide HN).below hb)
  have HC0 := hide (keep1 hb (lt_of_cell (unhide HC0)) (unhide HC0))
  have H6 := hide hN
  clear hb hN
  (try go_wp2_with fail)
  refine hKk.out _ _ ?_ (fun hHeld => ?_)
  · (try dsimp only)
    exact ⟨unhide HA, unhide HC0⟩
  clear hKk Kk
  (try simp only [List.setIfInBounds_toArray, List.set_cons_zero, List.set_cons_succ])
  refine rdA 12 8191 (fun Kk hKk => ?_)
  go_simp
  refine (refCmp_any _ _ _ _ _ _ _ _ _ (unhide HN) (unhide H6)).mono ?_
  rintro _ w7 ⟨rfl, hb⟩
  have HB := hide (bthen (unhide HB) hb)
  have HA := hide ((unhide HA).below hb)
  have HN := hide ((unhide HN).below hb)
  have HC0 := hide (keep1 hb (lt_of_cell (unhide HC0)) (unhide HC0))
  clear hb H6
  (try go_wp2_with fail)
  refine hKk.out _ _ ?_ (fun hHeld => ?_)
  · (try dsimp only)
    exact ⟨unhide HA, unhide HC0⟩
  clear hKk Kk
  (try simp only [List.setIfInBounds_toArray, List.set_cons_zero, List.set_cons_succ])
  refine tkA 13 42 16383 ?_
  refine tkA 14 43 32767 ?_
  refine tkA 15 44 65535 ?_
  refine wpAnyH_done (by kernel_rfl) ?_ _
  clear hHeld
  obtain ⟨e0, e1, e2, e3⟩ := unhide HA
  have e4 := unhide HC0
  go_wp2_with fail
  clear e0 e1 e2 e3 e4
  have HB := hide ((unhide HB).drew)
  have HA := hide ((unhide HA).below ((Below.refl _ _).drew))
  have HN := hide ((unhide HN).below ((Below.refl _ _).drew))
  have HC0 := hide (keep1 ((Below.refl _ _).drew) (lt_of_cell (unhide HC0)) (unhide HC0))
  refine wp_region_held_drew (S := fun w' => (w'.cell? ⟨w1.heap.size, 0, none⟩ = some (.bool true) ∧ w'.cell? ⟨w1.heap.size, 1, none⟩ = some (.int .i64 1) ∧ w'.cell? ⟨w1.heap.size, 2, none⟩ = some (.int .i64 X) ∧ w'.cell? ⟨w1.heap.size, 3, none⟩ = some (.int .u64 S)) ∧ w'.cell? ⟨b2, 0, none⟩ = some (.slice a3 m3 c3)) (by kernel_rfl) ?_ (fun hHeld => ?_)
  · (try dsimp only)
    exact ⟨unhide HA, unhide HC0⟩
  refine lst0 17 (by kernel_rfl) ?_
  refine tkA 0 45 1 ?_
  refine tkA 1 46 3 ?_
  refine tkA 2 47 7 ?_
  refine tkA 3 48 15 ?_
  refine tkU 4 49 31 ?_
  refine tkU 5 50 63 ?_
  refine tkU 6 51 127 ?_
  refine tkU 7 52 255 ?_
  refine tkU 8 53 511 ?_
  refine tkU 9 54 1023 ?_
  refine tkU 10 55 2047 ?_
  refine rdA 11 4095 (fun Kk hKk => ?_)
  go_simp
  refine hKk.out _ _ ?_ (fun hHeld => ?_)
  · (try dsimp only)
    exact hHeld
  clear hKk Kk
  (try simp only [List.setIfInBounds_toArray, List.set_cons_zero, List.set_cons_succ])
  refine rdA 12 8191 (fun Kk hKk => ?_)
  go_simp
  refine hKk.out _ _ ?_ (fun hHeld => ?_)
  · (try dsimp only)
    exact hHeld
  clear hKk Kk
  (try simp only [List.setIfInBounds_toArray, List.set_cons_zero, List.set_cons_succ])
  refine rdA 13 16383 (fun Kk hKk => ?_)
  go_simp
  refine hKk.out _ _ ?_ (fun hHeld => ?_)
  · (try dsimp only)
    exact hHeld
  clear hKk Kk
  (try simp only [List.setIfInBounds_toArray, List.set_cons_zero, List.set_cons_succ])
  refine tkU 14 59 32767 ?_
  refine tkU 15 60 65535 ?_
  refine tkA 16 61 131071 ?_
  refine wpAnyH_done (by kernel_rfl) ?_ _
  clear hHeld
  obtain ⟨e0, e1, e2, e3⟩ := unhide HA
  have e4 := unhide HC0
  go_wp2_with fail
  clear e0 e1 e2 e3 e4
  refine (uint_any _ _ _ _ _ (unhide HN)).mono ?_
  rintro _ w8 ⟨rfl, hb⟩
  have HB := hide (bthen (unhide HB) hb)
  have HA := hide ((unhide HA).below hb)
  clear hb
  rw [hm]
  obtain ⟨e0, e1, e2, e3⟩ := unhide HA
  go_wp2_with fail
  clear e0 e1 e2 e3
  refine (unhide HC _).mono ?_
  rintro _ w9 ⟨rfl, hb⟩
  have HB := hide (bthen (unhide HB) hb)
  clear hb
  go_wp2_with fail
  go_ret2
  exact ⟨rfl, unhide HB⟩
end Go.Proofs.Ytmbkpmcmhmldgaa
