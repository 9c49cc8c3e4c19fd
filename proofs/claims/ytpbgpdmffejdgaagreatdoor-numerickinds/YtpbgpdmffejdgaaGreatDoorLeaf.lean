/- Contracts of a float's own functions of package shape. -/
import Derived.Test.YtpbgpdmffejdgaaGreatDoorBase
import Derived.Test.YtpbgpdmffejdgaaGreatDoorTk
namespace Go.Proofs.YtpbgpdmffejdgaaGreatDoor
open Go.RowKit

set_option maxHeartbeats 1000000 in
theorem isNan_no {e f P Q b : Int} (n : Bool) (x y : Int) (h : Sz e f P Q b) (W : World) (hq : (x == Q - 1) = false) :
    Calls Tryz.prog 48 #[.agg #[.int .i64 e, .int .i64 f, .bool n, .int .u64 x, .int .u64 y]] W fun r W' => r = .returned (.bool (x == Q - 1 && y != 0)) ∧ Below W.heap.size W W' := by
  go_enter Tryz.func48, Tryz.ntmps48
  go_wp2_with fail
  refine wp_region_held_drew (S := fun w' => w'.cell? ⟨W.heap.size, 0, none⟩ = some (.int .i64 e) ∧ w'.cell? ⟨W.heap.size, 1, none⟩ = some (.int .i64 f) ∧ w'.cell? ⟨W.heap.size, 2, none⟩ = some (.bool n) ∧ w'.cell? ⟨W.heap.size, 3, none⟩ = some (.int .u64 x) ∧ w'.cell? ⟨W.heap.size, 4, none⟩ = some (.int .u64 y)) (by kernel_rfl) ?_ (fun hHeld => ?_)
  · (try dsimp only)
    simp [go_sem]
  refine lst0 12 (by kernel_rfl) ?_
  refine tkA 0 3 1 ?_
  refine tkA 1 4 3 ?_
  refine tkA 2 5 7 ?_
  refine tkA 3 6 15 ?_
  refine rdA 4 31 (fun Kk hKk => ?_)
  go_simp
  refine (last_any h _).mono ?_
  rintro _ w1 ⟨rfl, hbl⟩
  have HB := hide (bthen (below1 _ _).drew hbl)
  (try go_wp2_with fail)
  refine hKk.out _ _ ?_ (fun hHeld => ?_)
  · (try dsimp only)
    exact At5.below hHeld hbl
  clear hKk Kk
  (try simp only [List.setIfInBounds_toArray, List.set_cons_zero, List.set_cons_succ])
  refine tkA 5 8 63 ?_
  refine tkA 6 9 127 ?_
  refine tkU 7 10 255 ?_
  refine tkU 8 11 511 ?_
  refine tkU 9 12 1023 ?_
  refine tkA 10 13 2047 ?_
  refine tkA 11 2 4095 ?_
  refine wpAnyH_done (by kernel_rfl) ?_ _
  go_wp2
  go_ret
  exact ⟨by simp [hq], unhide HB⟩

set_option maxHeartbeats 1000000 in
theorem isNan_yes {e f P Q b : Int} (n : Bool) (x y : Int) (h : Sz e f P Q b) (W : World) (hq : (x == Q - 1) = true) :
    Calls Tryz.prog 48 #[.agg #[.int .i64 e, .int .i64 f, .bool n, .int .u64 x, .int .u64 y]] W fun r W' => r = .returned (.bool (x == Q - 1 && y != 0)) ∧ Below W.heap.size W W' := by
  go_enter Tryz.func48, Tryz.ntmps48
  go_wp2_with fail
  refine wp_region_held_drew (S := fun w' => w'.cell? ⟨W.heap.size, 0, none⟩ = some (.int .i64 e) ∧ w'.cell? ⟨W.heap.size, 1, none⟩ = some (.int .i64 f) ∧ w'.cell? ⟨W.heap.size, 2, none⟩ = some (.bool n) ∧ w'.cell? ⟨W.heap.size, 3, none⟩ = some (.int .u64 x) ∧ w'.cell? ⟨W.heap.size, 4, none⟩ = some (.int .u64 y)) (by kernel_rfl) ?_ (fun hHeld => ?_)
  · (try dsimp only)
    simp [go_sem]
  refine lst0 12 (by kernel_rfl) ?_
  refine tkA 0 3 1 ?_
  refine tkA 1 4 3 ?_
  refine tkA 2 5 7 ?_
  refine tkA 3 6 15 ?_
  refine rdA 4 31 (fun Kk hKk => ?_)
  go_simp
  refine (last_any h _).mono ?_
  rintro _ w1 ⟨rfl, hbl⟩
  have HB := hide (bthen (below1 _ _).drew hbl)
  (try go_wp2_with fail)
  refine hKk.out _ _ ?_ (fun hHeld => ?_)
  · (try dsimp only)
    exact At5.below hHeld hbl
  clear hKk Kk
  (try simp only [List.setIfInBounds_toArray, List.set_cons_zero, List.set_cons_succ])
  refine tkA 5 8 63 ?_
  refine tkA 6 9 127 ?_
  refine tkA 7 10 255 ?_
  refine tkA 8 11 511 ?_
  refine tkA 9 12 1023 ?_
  refine tkA 10 13 2047 ?_
  refine tkA 11 2 4095 ?_
  refine wpAnyH_done (by kernel_rfl) ?_ _
  go_wp2
  go_ret
  exact ⟨by simp [hq], unhide HB⟩

theorem isNan_any {e f P Q b : Int} (n : Bool) (x y : Int) (h : Sz e f P Q b) (W : World) :
    Calls Tryz.prog 48 #[.agg #[.int .i64 e, .int .i64 f, .bool n, .int .u64 x, .int .u64 y]] W fun r W' => r = .returned (.bool (x == Q - 1 && y != 0)) ∧ Below W.heap.size W W' := by
  cases hq : (x == Q - 1)
  · rw [← hq]; exact isNan_no n x y h W hq
  · rw [← hq]; exact isNan_yes n x y h W hq

set_option maxRecDepth 100000 in
set_option maxHeartbeats 4000000 in
theorem take_32 (x : Int) (W : World) (h0 : 0 ≤ x) (h1 : x < 18446744073709551616) :
    Calls Tryz.prog 46 #[.int .i64 32, .int .u64 x] W fun r W' => r = .returned (.agg #[.int .i64 8, .int .i64 23, .bool (x / 2147483648 % 2 == 1), .int .u64 (x / 8388608 % 256), .int .u64 (x % 8388608)]) ∧ Below W.heap.size W W' := by
  have h : Wd 32 8 23 8388608 256 (127) := Or.inl ⟨rfl, rfl, rfl, rfl, rfl, rfl⟩
  have hs := h.sz
  have k1 : IntKind.i64.wrap 31 = 31 := by decide +kernel
  have k2 : IntKind.u64.wrap 8388607 = 8388607 := by decide +kernel
  have a1 : bits .and .u64 (x / 2147483648) 1 = x / 2147483648 % 2 := and_mask 1 _ _ (by omega) (by omega) rfl (by omega)
  have a2 : bits .and .u64 (x / 8388608) 255 = x / 8388608 % 256 := and_mask 8 _ _ (by omega) (by omega) rfl (by omega)
  have a3 : bits .and .u64 x 8388607 = x % 8388608 := and_mask 23 _ _ (by omega) (by omega) rfl (by omega)
  clear h0 h1
  go_enter Tryz.func46, Tryz.ntmps46
  go_wp2_with fail
  refine (sizesOf_any h _).mono ?_
  rintro _ w1 ⟨rfl, hbl⟩
  have HB := hide (bthen (below1 _ _) hbl)
  have HR : Room W.heap.size 5 w1 := Room.below (w := W.alloc (.cells #[.int .i64 0, .int .i64 0, .bool false, .int .u64 0, .int .u64 0] 82)) (by
    intro o ho
    match o, ho with
    | 0, _ | 1, _ | 2, _ | 3, _ | 4, _ => simp [go_sem]) hbl
  have hz1 : W.heap.size < w1.heap.size := by have := hbl.size; simp at this; omega
  have HR := hide HR
  go_wp2_with fail
  have HB := hide ((balloc (unhide HB) (.cells #[.int .i64 8, .int .i64 23] 80)).drew)
  refine wp_region_held_drew (S := fun w' => (w'.cell? ⟨w1.heap.size, 0, none⟩ = some (.int .i64 8) ∧ w'.cell? ⟨w1.heap.size, 1, none⟩ = some (.int .i64 23)) ∧ Room W.heap.size 5 w') (by kernel_rfl) ?_ (fun hHeld => ?_)
  · (try dsimp only)
    exact ⟨by simp [go_sem], ((unhide HR).alloc _).drew⟩
  refine lst0 24 (by kernel_rfl) ?_
  refine tkA 0 8 1 ?_
  refine tkA 1 9 3 ?_
  refine tkA 2 10 7 ?_
  refine tkA 3 11 15 ?_
  refine tkA 4 12 31 ?_
  refine tkA 5 13 63 ?_
  refine tkA 6 14 127 ?_
  refine tkA 7 15 255 ?_
  refine tkA 8 16 511 ?_
  refine tkA 9 17 1023 ?_
  refine tkA 10 18 2047 ?_
  refine tkA 11 19 4095 ?_
  refine tkA 12 20 8191 ?_
  refine tkA 13 21 16383 ?_
  refine tkA 14 22 32767 ?_
  refine tkA 17 25 163839 ?_
  refine tkA 18 26 425983 ?_
  refine rdA 15 458751 (fun Kk hKk => ?_)
  go_simp
  refine (last_any hs _).mono ?_
  rintro _ w2 ⟨rfl, hbl⟩
  have HB := hide (bthen (unhide HB) hbl)
  (try go_wp2_with fail)
  refine hKk.out _ _ ?_ (fun hHeld => ?_)
  · (try dsimp only)
    exact ⟨At2.below hHeld.1 hbl, hHeld.2.below hbl⟩
  clear hKk Kk
  (try simp only [List.setIfInBounds_toArray, List.set_cons_zero, List.set_cons_succ])
  refine tkA 16 24 524287 ?_
  refine rdA 19 1048575 (fun Kk hKk => ?_)
  go_simp
  refine (one_any hs _).mono ?_
  rintro _ w3 ⟨rfl, hbl⟩
  have HB := hide (bthen (unhide HB) hbl)
  (try go_wp2_with fail)
  refine hKk.out _ _ ?_ (fun hHeld => ?_)
  · (try dsimp only)
    exact ⟨At2.below hHeld.1 hbl, hHeld.2.below hbl⟩
  clear hKk Kk
  (try simp only [List.setIfInBounds_toArray, List.set_cons_zero, List.set_cons_succ])
  refine tkA 20 28 2097151 ?_
  refine tkA 21 29 4194303 ?_
  refine tkA 22 30 8388607 ?_
  refine rdA 23 16777215 (fun Kk hKk => ?_)
  obtain ⟨⟨v0, c0⟩, f0⟩ := hHeld.2 0 (by omega)
  obtain ⟨⟨v1, c1⟩, f1⟩ := hHeld.2 1 (by omega)
  obtain ⟨⟨v2, c2⟩, f2⟩ := hHeld.2 2 (by omega)
  obtain ⟨⟨v3, c3⟩, f3⟩ := hHeld.2 3 (by omega)
  obtain ⟨⟨v4, c4⟩, f4⟩ := hHeld.2 4 (by omega)
  obtain ⟨g0, g1⟩ := hHeld.1
  go_simp
  refine hKk.out _ _ ?_ (fun hHeld => ?_)
  · (try dsimp only)
    exact ⟨⟨keep_set _ _ _ (by omega) (keep_set _ _ _ (by omega) (keep_set _ _ _ (by omega) (keep_set _ _ _ (by omega) (keep_set _ _ _ (by omega) g0)))), keep_set _ _ _ (by omega) (keep_set _ _ _ (by omega) (keep_set _ _ _ (by omega) (keep_set _ _ _ (by omega) (keep_set _ _ _ (by omega) g1))))⟩, ((((hHeld.2.set _ _).set _ _).set _ _).set _ _).set _ _⟩
  clear hKk Kk
  (try simp only [List.setIfInBounds_toArray, List.set_cons_zero, List.set_cons_succ])
  refine wpAnyH_done (by kernel_rfl) ?_ _
  clear hHeld
  go_wp2
  exact bodyPost_ret (v := .agg #[.int .i64 8, .int .i64 23, .bool (x / 2147483648 % 2 == 1), .int .u64 (x / 8388608 % 256), .int .u64 (x % 8388608)]) (by simp (maxDischargeDepth := 8) [results, Tryz.results46, go_sem, c0, c1, c2, c3, c4]) rfl ⟨rfl, bset (bset (bset (bset (bset (unhide HB) _ (Nat.le_refl _) _ _) _ (Nat.le_refl _) _ _) _ (Nat.le_refl _) _ _) _ (Nat.le_refl _) _ _) _ (Nat.le_refl _) _ _⟩

set_option maxRecDepth 100000 in
set_option maxHeartbeats 4000000 in
theorem take_64 (x : Int) (W : World) (h0 : 0 ≤ x) (h1 : x < 18446744073709551616) :
    Calls Tryz.prog 46 #[.int .i64 64, .int .u64 x] W fun r W' => r = .returned (.agg #[.int .i64 11, .int .i64 52, .bool (x / 9223372036854775808 % 2 == 1), .int .u64 (x / 4503599627370496 % 2048), .int .u64 (x % 4503599627370496)]) ∧ Below W.heap.size W W' := by
  have h : Wd 64 11 52 4503599627370496 2048 (1023) := Or.inr (Or.inl ⟨rfl, rfl, rfl, rfl, rfl, rfl⟩)
  have hs := h.sz
  have k1 : IntKind.i64.wrap 63 = 63 := by decide +kernel
  have k2 : IntKind.u64.wrap 4503599627370495 = 4503599627370495 := by decide +kernel
  have a1 : bits .and .u64 (x / 9223372036854775808) 1 = x / 9223372036854775808 % 2 := and_mask 1 _ _ (by omega) (by omega) rfl (by omega)
  have a2 : bits .and .u64 (x / 4503599627370496) 2047 = x / 4503599627370496 % 2048 := and_mask 11 _ _ (by omega) (by omega) rfl (by omega)
  have a3 : bits .and .u64 x 4503599627370495 = x % 4503599627370496 := and_mask 52 _ _ (by omega) (by omega) rfl (by omega)
  clear h0 h1
  go_enter Tryz.func46, Tryz.ntmps46
  go_wp2_with fail
  refine (sizesOf_any h _).mono ?_
  rintro _ w1 ⟨rfl, hbl⟩
  have HB := hide (bthen (below1 _ _) hbl)
  have HR : Room W.heap.size 5 w1 := Room.below (w := W.alloc (.cells #[.int .i64 0, .int .i64 0, .bool false, .int .u64 0, .int .u64 0] 82)) (by
    intro o ho
    match o, ho with
    | 0, _ | 1, _ | 2, _ | 3, _ | 4, _ => simp [go_sem]) hbl
  have hz1 : W.heap.size < w1.heap.size := by have := hbl.size; simp at this; omega
  have HR := hide HR
  go_wp2_with fail
  have HB := hide ((balloc (unhide HB) (.cells #[.int .i64 11, .int .i64 52] 80)).drew)
  refine wp_region_held_drew (S := fun w' => (w'.cell? ⟨w1.heap.size, 0, none⟩ = some (.int .i64 11) ∧ w'.cell? ⟨w1.heap.size, 1, none⟩ = some (.int .i64 52)) ∧ Room W.heap.size 5 w') (by kernel_rfl) ?_ (fun hHeld => ?_)
  · (try dsimp only)
    exact ⟨by simp [go_sem], ((unhide HR).alloc _).drew⟩
  refine lst0 24 (by kernel_rfl) ?_
  refine tkA 0 8 1 ?_
  refine tkA 1 9 3 ?_
  refine tkA 2 10 7 ?_
  refine tkA 3 11 15 ?_
  refine tkA 4 12 31 ?_
  refine tkA 5 13 63 ?_
  refine tkA 6 14 127 ?_
  refine tkA 7 15 255 ?_
  refine tkA 8 16 511 ?_
  refine tkA 9 17 1023 ?_
  refine tkA 10 18 2047 ?_
  refine tkA 11 19 4095 ?_
  refine tkA 12 20 8191 ?_
  refine tkA 13 21 16383 ?_
  refine tkA 14 22 32767 ?_
  refine tkA 17 25 163839 ?_
  refine tkA 18 26 425983 ?_
  refine rdA 15 458751 (fun Kk hKk => ?_)
  go_simp
  refine (last_any hs _).mono ?_
  rintro _ w2 ⟨rfl, hbl⟩
  have HB := hide (bthen (unhide HB) hbl)
  (try go_wp2_with fail)
  refine hKk.out _ _ ?_ (fun hHeld => ?_)
  · (try dsimp only)
    exact ⟨At2.below hHeld.1 hbl, hHeld.2.below hbl⟩
  clear hKk Kk
  (try simp only [List.setIfInBounds_toArray, List.set_cons_zero, List.set_cons_succ])
  refine tkA 16 24 524287 ?_
  refine rdA 19 1048575 (fun Kk hKk => ?_)
  go_simp
  refine (one_any hs _).mono ?_
  rintro _ w3 ⟨rfl, hbl⟩
  have HB := hide (bthen (unhide HB) hbl)
  (try go_wp2_with fail)
  refine hKk.out _ _ ?_ (fun hHeld => ?_)
  · (try dsimp only)
    exact ⟨At2.below hHeld.1 hbl, hHeld.2.below hbl⟩
  clear hKk Kk
  (try simp only [List.setIfInBounds_toArray, List.set_cons_zero, List.set_cons_succ])
  refine tkA 20 28 2097151 ?_
  refine tkA 21 29 4194303 ?_
  refine tkA 22 30 8388607 ?_
  refine rdA 23 16777215 (fun Kk hKk => ?_)
  obtain ⟨⟨v0, c0⟩, f0⟩ := hHeld.2 0 (by omega)
  obtain ⟨⟨v1, c1⟩, f1⟩ := hHeld.2 1 (by omega)
  obtain ⟨⟨v2, c2⟩, f2⟩ := hHeld.2 2 (by omega)
  obtain ⟨⟨v3, c3⟩, f3⟩ := hHeld.2 3 (by omega)
  obtain ⟨⟨v4, c4⟩, f4⟩ := hHeld.2 4 (by omega)
  obtain ⟨g0, g1⟩ := hHeld.1
  go_simp
  refine hKk.out _ _ ?_ (fun hHeld => ?_)
  · (try dsimp only)
    exact ⟨⟨keep_set _ _ _ (by omega) (keep_set _ _ _ (by omega) (keep_set _ _ _ (by omega) (keep_set _ _ _ (by omega) (keep_set _ _ _ (by omega) g0)))), keep_set _ _ _ (by omega) (keep_set _ _ _ (by omega) (keep_set _ _ _ (by omega) (keep_set _ _ _ (by omega) (keep_set _ _ _ (by omega) g1))))⟩, ((((hHeld.2.set _ _).set _ _).set _ _).set _ _).set _ _⟩
  clear hKk Kk
  (try simp only [List.setIfInBounds_toArray, List.set_cons_zero, List.set_cons_succ])
  refine wpAnyH_done (by kernel_rfl) ?_ _
  clear hHeld
  go_wp2
  exact bodyPost_ret (v := .agg #[.int .i64 11, .int .i64 52, .bool (x / 9223372036854775808 % 2 == 1), .int .u64 (x / 4503599627370496 % 2048), .int .u64 (x % 4503599627370496)]) (by simp (maxDischargeDepth := 8) [results, Tryz.results46, go_sem, c0, c1, c2, c3, c4]) rfl ⟨rfl, bset (bset (bset (bset (bset (unhide HB) _ (Nat.le_refl _) _ _) _ (Nat.le_refl _) _ _) _ (Nat.le_refl _) _ _) _ (Nat.le_refl _) _ _) _ (Nat.le_refl _) _ _⟩

set_option maxRecDepth 100000 in
set_option maxHeartbeats 4000000 in
theorem take_no (w : Int) (x : Int) (W : World) (h0 : 0 ≤ x) (h1 : x < 18446744073709551616) (hw : w ≠ 32 ∧ w ≠ 64) :
    Calls Tryz.prog 46 #[.int .i64 w, .int .u64 x] W fun r W' => r = .returned (.agg #[.int .i64 0, .int .i64 0, .bool (x % 2 == 1), .int .u64 0, .int .u64 0]) ∧ Below W.heap.size W W' := by
  have h : Wd w 0 0 1 1 (-1) := Or.inr (Or.inr ⟨hw, rfl, rfl, rfl, rfl, rfl⟩)
  have hs := h.sz
  have k1 : IntKind.i64.wrap 0 = 0 := by decide +kernel
  have k2 : IntKind.u64.wrap 0 = 0 := by decide +kernel
  have a1 : bits .and .u64 (x) 1 = x % 2 := and_mask 1 _ _ (by omega) (by omega) rfl (by omega)
  have a2 : bits .and .u64 x 0 = 0 := (and_mask 0 _ _ (by omega) (by omega) rfl (by omega)).trans (Int.emod_one _)
  clear h0 h1
  go_enter Tryz.func46, Tryz.ntmps46
  go_wp2_with fail
  refine (sizesOf_any h _).mono ?_
  rintro _ w1 ⟨rfl, hbl⟩
  have HB := hide (bthen (below1 _ _) hbl)
  have HR : Room W.heap.size 5 w1 := Room.below (w := W.alloc (.cells #[.int .i64 0, .int .i64 0, .bool false, .int .u64 0, .int .u64 0] 82)) (by
    intro o ho
    match o, ho with
    | 0, _ | 1, _ | 2, _ | 3, _ | 4, _ => simp [go_sem]) hbl
  have hz1 : W.heap.size < w1.heap.size := by have := hbl.size; simp at this; omega
  have HR := hide HR
  go_wp2_with fail
  have HB := hide ((balloc (unhide HB) (.cells #[.int .i64 0, .int .i64 0] 80)).drew)
  refine wp_region_held_drew (S := fun w' => (w'.cell? ⟨w1.heap.size, 0, none⟩ = some (.int .i64 0) ∧ w'.cell? ⟨w1.heap.size, 1, none⟩ = some (.int .i64 0)) ∧ Room W.heap.size 5 w') (by kernel_rfl) ?_ (fun hHeld => ?_)
  · (try dsimp only)
    exact ⟨by simp [go_sem], ((unhide HR).alloc _).drew⟩
  refine lst0 24 (by kernel_rfl) ?_
  refine tkA 0 8 1 ?_
  refine tkA 1 9 3 ?_
  refine tkA 2 10 7 ?_
  refine tkA 3 11 15 ?_
  refine tkA 4 12 31 ?_
  refine tkA 5 13 63 ?_
  refine tkA 6 14 127 ?_
  refine tkA 7 15 255 ?_
  refine tkA 8 16 511 ?_
  refine tkA 9 17 1023 ?_
  refine tkA 10 18 2047 ?_
  refine tkA 11 19 4095 ?_
  refine tkA 12 20 8191 ?_
  refine tkA 13 21 16383 ?_
  refine tkA 14 22 32767 ?_
  refine tkA 17 25 163839 ?_
  refine tkA 18 26 425983 ?_
  refine rdA 15 458751 (fun Kk hKk => ?_)
  go_simp
  refine (last_any hs _).mono ?_
  rintro _ w2 ⟨rfl, hbl⟩
  have HB := hide (bthen (unhide HB) hbl)
  (try go_wp2_with fail)
  refine hKk.out _ _ ?_ (fun hHeld => ?_)
  · (try dsimp only)
    exact ⟨At2.below hHeld.1 hbl, hHeld.2.below hbl⟩
  clear hKk Kk
  (try simp only [List.setIfInBounds_toArray, List.set_cons_zero, List.set_cons_succ])
  refine tkA 16 24 524287 ?_
  refine rdA 19 1048575 (fun Kk hKk => ?_)
  go_simp
  refine (one_any hs _).mono ?_
  rintro _ w3 ⟨rfl, hbl⟩
  have HB := hide (bthen (unhide HB) hbl)
  (try go_wp2_with fail)
  refine hKk.out _ _ ?_ (fun hHeld => ?_)
  · (try dsimp only)
    exact ⟨At2.below hHeld.1 hbl, hHeld.2.below hbl⟩
  clear hKk Kk
  (try simp only [List.setIfInBounds_toArray, List.set_cons_zero, List.set_cons_succ])
  refine tkA 20 28 2097151 ?_
  refine tkA 21 29 4194303 ?_
  refine tkA 22 30 8388607 ?_
  refine rdA 23 16777215 (fun Kk hKk => ?_)
  obtain ⟨⟨v0, c0⟩, f0⟩ := hHeld.2 0 (by omega)
  obtain ⟨⟨v1, c1⟩, f1⟩ := hHeld.2 1 (by omega)
  obtain ⟨⟨v2, c2⟩, f2⟩ := hHeld.2 2 (by omega)
  obtain ⟨⟨v3, c3⟩, f3⟩ := hHeld.2 3 (by omega)
  obtain ⟨⟨v4, c4⟩, f4⟩ := hHeld.2 4 (by omega)
  obtain ⟨g0, g1⟩ := hHeld.1
  go_simp
  refine hKk.out _ _ ?_ (fun hHeld => ?_)
  · (try dsimp only)
    exact ⟨⟨keep_set _ _ _ (by omega) (keep_set _ _ _ (by omega) (keep_set _ _ _ (by omega) (keep_set _ _ _ (by omega) (keep_set _ _ _ (by omega) g0)))), keep_set _ _ _ (by omega) (keep_set _ _ _ (by omega) (keep_set _ _ _ (by omega) (keep_set _ _ _ (by omega) (keep_set _ _ _ (by omega) g1))))⟩, ((((hHeld.2.set _ _).set _ _).set _ _).set _ _).set _ _⟩
  clear hKk Kk
  (try simp only [List.setIfInBounds_toArray, List.set_cons_zero, List.set_cons_succ])
  refine wpAnyH_done (by kernel_rfl) ?_ _
  clear hHeld
  go_wp2
  exact bodyPost_ret (v := .agg #[.int .i64 0, .int .i64 0, .bool (x % 2 == 1), .int .u64 0, .int .u64 0]) (by simp (maxDischargeDepth := 8) [results, Tryz.results46, go_sem, c0, c1, c2, c3, c4]) rfl ⟨rfl, bset (bset (bset (bset (bset (unhide HB) _ (Nat.le_refl _) _ _) _ (Nat.le_refl _) _ _) _ (Nat.le_refl _) _ _) _ (Nat.le_refl _) _ _) _ (Nat.le_refl _) _ _⟩

end Go.Proofs.YtpbgpdmffejdgaaGreatDoor
