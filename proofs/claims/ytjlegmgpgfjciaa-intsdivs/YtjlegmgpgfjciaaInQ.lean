/- The reference's DivU, DivS: the walks. -/
import Derived.Test.YtjlegmgpgfjciaaInR
namespace Go.Proofs.Ytjlegmgpgfjciaa
open Go.RowKit
open Go.Proofs.Ytjlegmgpgfjciaa.W

set_option maxHeartbeats 4000000 in
set_option maxRecDepth 100000 in
theorem rdivu_w {w a b q r : Int} {x y : Nat} (HA : Hid (∀ W, Calls Try.prog 41 #[.int .i64 w, .int .u64 a] W fun e w' => ∃ s, e = .returned (.agg #[s]) ∧ IsNat w' s (x) ∧ Below W.heap.size W w')) (HD : Hid (∀ W, Calls Try.prog 41 #[.int .i64 w, .int .u64 b] W fun e w' => ∃ s, e = .returned (.agg #[s]) ∧ IsNat w' s (y) ∧ Below W.heap.size W w')) (hx : x < pw 2) (hy : y < pw 2) (hy0 : y ≠ 0) (HM1 : Hid (∀ (a1 : Option Addr) (m1 c1 : Nat) W, IsNat W (.slice a1 m1 c1) (x / y) → Calls Try.prog 39 #[.int .i64 w, .agg #[.slice a1 m1 c1]] W fun r' W' => r' = .returned (.int .u64 q) ∧ Below W.heap.size W W')) (HM2 : Hid (∀ (a1 : Option Addr) (m1 c1 : Nat) W, IsNat W (.slice a1 m1 c1) (x % y) → Calls Try.prog 39 #[.int .i64 w, .agg #[.slice a1 m1 c1]] W fun r' W' => r' = .returned (.int .u64 r) ∧ Below W.heap.size W W')) : Ct 21 #[.int .i64 w, .int .u64 a, .int .u64 b] (.tuple #[.int .u64 q, .int .u64 r]) := by
  refine hide (fun W => ?_)
  have HB := hide (Below.refl W.heap.size W)
  go_enter Try.func21, Try.ntmps21
  go_wp2_with fail
  refine (unhide HA _).mono ?_
  rintro _ w1 ⟨s1, rfl, hN, hb⟩
  obtain ⟨a1, m1, c1, rfl⟩ := hN.slice
  have HB := hide (bthen (unhide HB) hb)
  have HN1 := hide hN
  clear hb hN
  go_wp2_with fail
  refine (unhide HD _).mono ?_
  rintro _ w2 ⟨s2, rfl, hN, hb⟩
  obtain ⟨a2, m2, c2, rfl⟩ := hN.slice
  have HB := hide (bthen (unhide HB) hb)
  have HN1 := hide ((unhide HN1).below hb)
  have HN2 := hide hN
  clear hb hN
  go_wp2_with fail
  refine (refDiv_any _ _ _ _ _ _ _ _ _ (unhide HN1) (unhide HN2) hy0 (lt_pw 300 hx (by omega)) (lt_pw 300 hy (by omega))).mono ?_
  rintro _ w3 ⟨s3, s4, rfl, hN3, hN4, hb⟩
  obtain ⟨a3, m3, c3, rfl⟩ := hN3.slice
  obtain ⟨a4, m4, c4, rfl⟩ := hN4.slice
  have HB := hide ((balloc (balloc (bthen (unhide HB) hb) (.cells #[.slice a3 m3 c3] 45)) (.cells #[.slice a4 m4 c4] 45)).drew)
  have HN3 := hide (((hN3.alloc (.cells #[.slice a3 m3 c3] 45)).alloc (.cells #[.slice a4 m4 c4] 45)).below ((Below.refl _ _).drew))
  have HN4 := hide (((hN4.alloc (.cells #[.slice a3 m3 c3] 45)).alloc (.cells #[.slice a4 m4 c4] 45)).below ((Below.refl _ _).drew))
  have HC3 : Hid (((w3.alloc (.cells #[.slice a3 m3 c3] 45)).alloc (.cells #[.slice a4 m4 c4] 45)).drew.cell? ⟨w3.heap.size, 0, none⟩ = some (.slice a3 m3 c3)) := by unfold Hid; simp [go_sem]
  have HC4 : Hid (((w3.alloc (.cells #[.slice a3 m3 c3] 45)).alloc (.cells #[.slice a4 m4 c4] 45)).drew.cell? ⟨w3.heap.size + 1, 0, none⟩ = some (.slice a4 m4 c4)) := by unfold Hid; simp [go_sem]
  clear hb hN3 hN4
  go_wp2_with fail
  refine wp_region_held_drew (S := fun w' => w'.cell? ⟨w3.heap.size, 0, none⟩ = some (.slice a3 m3 c3) ∧ w'.cell? ⟨w3.heap.size + 1, 0, none⟩ = some (.slice a4 m4 c4)) (by kernel_rfl) ?_ (fun hHeld => ?_)
  · (try dsimp only)
    exact ⟨unhide HC3, unhide HC4⟩
  refine lst0 8 (by kernel_rfl) ?_
  refine tkA 0 20 1 ?_
  refine tkA 1 21 3 ?_
  refine tkA 3 23 11 ?_
  refine tkA 4 24 27 ?_
  refine rdA 2 31 (fun Kk hKk => ?_)
  go_simp
  refine (unhide HM1 _ _ _ _ (unhide HN3)).mono ?_
  rintro _ w5 ⟨rfl, hb⟩
  have HB := hide (bthen (unhide HB) hb)
  have HN3 := hide ((unhide HN3).below hb)
  have HN4 := hide ((unhide HN4).below hb)
  have HC3 := hide (keep1 hb (lt_of_cell (unhide HC3)) (unhide HC3))
  have HC4 := hide (keep1 hb (lt_of_cell (unhide HC4)) (unhide HC4))
  clear hb
  (try go_wp2_with fail)
  refine hKk.out _ _ ?_ (fun hHeld => ?_)
  · (try dsimp only)
    exact ⟨unhide HC3, unhide HC4⟩
  clear hKk Kk
  (try simp only [List.setIfInBounds_toArray, List.set_cons_zero, List.set_cons_succ])
  refine rdA 5 63 (fun Kk hKk => ?_)
  go_simp
  refine (unhide HM2 _ _ _ _ (unhide HN4)).mono ?_
  rintro _ w6 ⟨rfl, hb⟩
  have HB := hide (bthen (unhide HB) hb)
  have HN3 := hide ((unhide HN3).below hb)
  have HN4 := hide ((unhide HN4).below hb)
  have HC3 := hide (keep1 hb (lt_of_cell (unhide HC3)) (unhide HC3))
  have HC4 := hide (keep1 hb (lt_of_cell (unhide HC4)) (unhide HC4))
  clear hb
  (try go_wp2_with fail)
  refine hKk.out _ _ ?_ (fun hHeld => ?_)
  · (try dsimp only)
    exact ⟨unhide HC3, unhide HC4⟩
  clear hKk Kk
  (try simp only [List.setIfInBounds_toArray, List.set_cons_zero, List.set_cons_succ])
  refine tkA 6 6 127 ?_
  refine tkA 7 7 255 ?_
  refine wpAnyH_done (by kernel_rfl) ?_ _
  clear hHeld
  go_wp2_with fail
  go_ret2
  exact ⟨rfl, unhide HB⟩
set_option maxHeartbeats 4000000 in
set_option maxRecDepth 100000 in
theorem rdivs_tt {w a b m n p r j T r' : Int} (HS1 : Ct 50 #[.int .i64 w, .int .u64 a] (.tuple #[.bool true, .int .u64 m])) (HS2 : Ct 50 #[.int .i64 w, .int .u64 b] (.tuple #[.bool true, .int .u64 n])) (m0 : 0 ≤ m) (m1 : m < 18446744073709551616) (n0 : 0 ≤ n) (n1 : n < 18446744073709551616) (hy0 : n.toNat ≠ 0) (HM1 : Hid (∀ (a1 : Option Addr) (m1 c1 : Nat) W, IsNat W (.slice a1 m1 c1) (m.toNat / n.toNat) → Calls Try.prog 39 #[.int .i64 w, .agg #[.slice a1 m1 c1]] W fun r' W' => r' = .returned (.int .u64 p) ∧ Below W.heap.size W W')) (HM2 : Hid (∀ (a1 : Option Addr) (m1 c1 : Nat) W, IsNat W (.slice a1 m1 c1) (m.toNat % n.toNat) → Calls Try.prog 39 #[.int .i64 w, .agg #[.slice a1 m1 c1]] W fun r' W' => r' = .returned (.int .u64 r) ∧ Below W.heap.size W W')) (hj : IntKind.i64.wrap (w - 1) = j) (HT : Ct 52 #[.int .i64 j] (.int .u64 T)) (T0 : 0 ≤ T) (T1 : T < 18446744073709551616) (HR : Ct 14 #[.int .i64 w, .int .u64 0, .int .u64 r] (.int .u64 r')) : Ct 22 #[.int .i64 w, .int .u64 a, .int .u64 b] (.tuple #[.int .u64 p, .int .u64 r', .bool (cmpN (m.toNat / n.toNat) T.toNat == 0)]) := by
  have hx : m.toNat < pw 2 := by rw [pw_2]; omega
  have hy : n.toNat < pw 2 := by rw [pw_2]; omega
  refine hide (fun W => ?_)
  have HB := hide (Below.refl W.heap.size W)
  go_enter Try.func22, Try.ntmps22
  go_wp2_with fail
  refine (unhide HS1 _).mono ?_
  rintro _ wx ⟨rfl, hb⟩
  have HB := hide (bthen (unhide HB) hb)
  clear hb
  go_wp2_with fail
  refine (unhide HS2 _).mono ?_
  rintro _ wy ⟨rfl, hb⟩
  have HB := hide (bthen (unhide HB) hb)
  clear hb
  go_wp2_with fail
  refine (refOf_any m _ m0 m1).mono ?_
  rintro _ w1 ⟨s1, rfl, hN, hb⟩
  obtain ⟨a1, m1, c1, rfl⟩ := hN.slice
  have HB := hide (bthen (unhide HB) hb)
  have HN1 := hide hN
  clear hb hN
  go_wp2_with fail
  refine (refOf_any n _ n0 n1).mono ?_
  rintro _ w2 ⟨s2, rfl, hN, hb⟩
  obtain ⟨a2, m2, c2, rfl⟩ := hN.slice
  have HB := hide (bthen (unhide HB) hb)
  have HN1 := hide ((unhide HN1).below hb)
  have HN2 := hide hN
  clear hb hN
  go_wp2_with fail
  refine (refDiv_any _ _ _ _ _ _ _ _ _ (unhide HN1) (unhide HN2) hy0 (lt_pw 300 hx (by omega)) (lt_pw 300 hy (by omega))).mono ?_
  rintro _ w3 ⟨s3, s4, rfl, hN3, hN4, hb⟩
  obtain ⟨a3, m3, c3, rfl⟩ := hN3.slice
  obtain ⟨a4, m4, c4, rfl⟩ := hN4.slice
  have HB := hide ((balloc (balloc (bthen (unhide HB) hb) (.cells #[.slice a3 m3 c3] 45)) (.cells #[.slice a4 m4 c4] 45)).drew)
  have HN3 := hide (((hN3.alloc (.cells #[.slice a3 m3 c3] 45)).alloc (.cells #[.slice a4 m4 c4] 45)).below ((Below.refl _ _).drew))
  have HN4 := hide (((hN4.alloc (.cells #[.slice a3 m3 c3] 45)).alloc (.cells #[.slice a4 m4 c4] 45)).below ((Below.refl _ _).drew))
  have HC3 : Hid (((w3.alloc (.cells #[.slice a3 m3 c3] 45)).alloc (.cells #[.slice a4 m4 c4] 45)).drew.cell? ⟨w3.heap.size, 0, none⟩ = some (.slice a3 m3 c3)) := by unfold Hid; simp [go_sem]
  have HC4 : Hid (((w3.alloc (.cells #[.slice a3 m3 c3] 45)).alloc (.cells #[.slice a4 m4 c4] 45)).drew.cell? ⟨w3.heap.size + 1, 0, none⟩ = some (.slice a4 m4 c4)) := by unfold Hid; simp [go_sem]
  clear hb hN3 hN4
  go_wp2_with fail
  refine wp_region_held_drew (S := fun w' => w'.cell? ⟨w3.heap.size, 0, none⟩ = some (.slice a3 m3 c3) ∧ w'.cell? ⟨w3.heap.size + 1, 0, none⟩ = some (.slice a4 m4 c4)) (by kernel_rfl) ?_ (fun hHeld => ?_)
  · (try dsimp only)
    exact ⟨unhide HC3, unhide HC4⟩
  refine lst0 13 (by kernel_rfl) ?_
  refine tkA 0 38 1 ?_
  refine tkA 1 39 3 ?_
  refine tkA 2 40 7 ?_
  refine tkA 3 41 15 ?_
  refine tkA 4 42 31 ?_
  refine tkA 5 43 63 ?_
  refine tkA 6 44 127 ?_
  refine rdA 7 255 (fun Kk hKk => ?_)
  go_simp
  refine (unhide HT _).mono ?_
  rintro _ w5 ⟨rfl, hb⟩
  have HB := hide (bthen (unhide HB) hb)
  have HN3 := hide ((unhide HN3).below hb)
  have HN4 := hide ((unhide HN4).below hb)
  have HC3 := hide (keep1 hb (lt_of_cell (unhide HC3)) (unhide HC3))
  have HC4 := hide (keep1 hb (lt_of_cell (unhide HC4)) (unhide HC4))
  clear hb
  (try go_wp2_with fail)
  refine hKk.out _ _ ?_ (fun hHeld => ?_)
  · (try dsimp only)
    exact ⟨unhide HC3, unhide HC4⟩
  clear hKk Kk
  (try simp only [List.setIfInBounds_toArray, List.set_cons_zero, List.set_cons_succ])
  refine rdA 8 511 (fun Kk hKk => ?_)
  go_simp
  refine (refOf_any T _ T0 T1).mono ?_
  rintro _ w6 ⟨s6, rfl, hN, hb⟩
  obtain ⟨a6, m6, c6, rfl⟩ := hN.slice
  have HB := hide (bthen (unhide HB) hb)
  have HN3 := hide ((unhide HN3).below hb)
  have HN4 := hide ((unhide HN4).below hb)
  have HC3 := hide (keep1 hb (lt_of_cell (unhide HC3)) (unhide HC3))
  have HC4 := hide (keep1 hb (lt_of_cell (unhide HC4)) (unhide HC4))
  have H6 := hide hN
  clear hb hN
  (try go_wp2_with fail)
  refine hKk.out _ _ ?_ (fun hHeld => ?_)
  · (try dsimp only)
    exact ⟨unhide HC3, unhide HC4⟩
  clear hKk Kk
  (try simp only [List.setIfInBounds_toArray, List.set_cons_zero, List.set_cons_succ])
  refine rdA 9 1023 (fun Kk hKk => ?_)
  go_simp
  refine (refCmp_any _ _ _ _ _ _ _ _ _ (unhide HN3) (unhide H6)).mono ?_
  rintro _ w7 ⟨rfl, hb⟩
  have HB := hide (bthen (unhide HB) hb)
  have HN3 := hide ((unhide HN3).below hb)
  have HN4 := hide ((unhide HN4).below hb)
  have HC3 := hide (keep1 hb (lt_of_cell (unhide HC3)) (unhide HC3))
  have HC4 := hide (keep1 hb (lt_of_cell (unhide HC4)) (unhide HC4))
  clear hb H6
  (try go_wp2_with fail)
  refine hKk.out _ _ ?_ (fun hHeld => ?_)
  · (try dsimp only)
    exact ⟨unhide HC3, unhide HC4⟩
  clear hKk Kk
  (try simp only [List.setIfInBounds_toArray, List.set_cons_zero, List.set_cons_succ])
  refine tkA 10 48 2047 ?_
  refine tkA 11 49 4095 ?_
  refine tkA 12 15 8191 ?_
  refine wpAnyH_done (by kernel_rfl) ?_ _
  clear hHeld
  have e3 := unhide HC3
  have e4 := unhide HC4
  go_wp2_with fail
  clear e3 e4
  refine (unhide HM1 _ _ _ _ (unhide HN3)).mono ?_
  rintro _ w8 ⟨rfl, hb⟩
  have HB := hide (bthen (unhide HB) hb)
  have HN3 := hide ((unhide HN3).below hb)
  have HN4 := hide ((unhide HN4).below hb)
  have HC3 := hide (keep1 hb (lt_of_cell (unhide HC3)) (unhide HC3))
  have HC4 := hide (keep1 hb (lt_of_cell (unhide HC4)) (unhide HC4))
  clear hb
  have e3 := unhide HC3
  have e4 := unhide HC4
  go_wp2_with fail
  clear e3 e4
  refine (unhide HM2 _ _ _ _ (unhide HN4)).mono ?_
  rintro _ w9 ⟨rfl, hb⟩
  have HB := hide (bthen (unhide HB) hb)
  clear hb
  go_wp2_with fail
  refine (unhide HR _).mono ?_
  rintro _ wB ⟨rfl, hb⟩
  have HB := hide (bthen (unhide HB) hb)
  clear hb
  go_wp2_with fail
  exact bodyPost_ret (v := .tuple #[.int .u64 p, .int .u64 r', .bool (cmpN (m.toNat / n.toNat) T.toNat == 0)]) (by simp [results, Try.results22, go_sem]) rfl ⟨rfl, unhide HB⟩
set_option maxHeartbeats 4000000 in
set_option maxRecDepth 100000 in
theorem rdivs_tf {w a b m n p r p' r' : Int} (HS1 : Ct 50 #[.int .i64 w, .int .u64 a] (.tuple #[.bool true, .int .u64 m])) (HS2 : Ct 50 #[.int .i64 w, .int .u64 b] (.tuple #[.bool false, .int .u64 n])) (m0 : 0 ≤ m) (m1 : m < 18446744073709551616) (n0 : 0 ≤ n) (n1 : n < 18446744073709551616) (hy0 : n.toNat ≠ 0) (HM1 : Hid (∀ (a1 : Option Addr) (m1 c1 : Nat) W, IsNat W (.slice a1 m1 c1) (m.toNat / n.toNat) → Calls Try.prog 39 #[.int .i64 w, .agg #[.slice a1 m1 c1]] W fun r' W' => r' = .returned (.int .u64 p) ∧ Below W.heap.size W W')) (HM2 : Hid (∀ (a1 : Option Addr) (m1 c1 : Nat) W, IsNat W (.slice a1 m1 c1) (m.toNat % n.toNat) → Calls Try.prog 39 #[.int .i64 w, .agg #[.slice a1 m1 c1]] W fun r' W' => r' = .returned (.int .u64 r) ∧ Below W.heap.size W W')) (HP : Ct 14 #[.int .i64 w, .int .u64 0, .int .u64 p] (.int .u64 p')) (HR : Ct 14 #[.int .i64 w, .int .u64 0, .int .u64 r] (.int .u64 r')) : Ct 22 #[.int .i64 w, .int .u64 a, .int .u64 b] (.tuple #[.int .u64 p', .int .u64 r', .bool false]) := by
  have hx : m.toNat < pw 2 := by rw [pw_2]; omega
  have hy : n.toNat < pw 2 := by rw [pw_2]; omega
  refine hide (fun W => ?_)
  have HB := hide (Below.refl W.heap.size W)
  go_enter Try.func22, Try.ntmps22
  go_wp2_with fail
  refine (unhide HS1 _).mono ?_
  rintro _ wx ⟨rfl, hb⟩
  have HB := hide (bthen (unhide HB) hb)
  clear hb
  go_wp2_with fail
  refine (unhide HS2 _).mono ?_
  rintro _ wy ⟨rfl, hb⟩
  have HB := hide (bthen (unhide HB) hb)
  clear hb
  go_wp2_with fail
  refine (refOf_any m _ m0 m1).mono ?_
  rintro _ w1 ⟨s1, rfl, hN, hb⟩
  obtain ⟨a1, m1, c1, rfl⟩ := hN.slice
  have HB := hide (bthen (unhide HB) hb)
  have HN1 := hide hN
  clear hb hN
  go_wp2_with fail
  refine (refOf_any n _ n0 n1).mono ?_
  rintro _ w2 ⟨s2, rfl, hN, hb⟩
  obtain ⟨a2, m2, c2, rfl⟩ := hN.slice
  have HB := hide (bthen (unhide HB) hb)
  have HN1 := hide ((unhide HN1).below hb)
  have HN2 := hide hN
  clear hb hN
  go_wp2_with fail
  refine (refDiv_any _ _ _ _ _ _ _ _ _ (unhide HN1) (unhide HN2) hy0 (lt_pw 300 hx (by omega)) (lt_pw 300 hy (by omega))).mono ?_
  rintro _ w3 ⟨s3, s4, rfl, hN3, hN4, hb⟩
  obtain ⟨a3, m3, c3, rfl⟩ := hN3.slice
  obtain ⟨a4, m4, c4, rfl⟩ := hN4.slice
  have HB := hide ((balloc (balloc (bthen (unhide HB) hb) (.cells #[.slice a3 m3 c3] 45)) (.cells #[.slice a4 m4 c4] 45)).drew)
  have HN3 := hide (((hN3.alloc (.cells #[.slice a3 m3 c3] 45)).alloc (.cells #[.slice a4 m4 c4] 45)).below ((Below.refl _ _).drew))
  have HN4 := hide (((hN4.alloc (.cells #[.slice a3 m3 c3] 45)).alloc (.cells #[.slice a4 m4 c4] 45)).below ((Below.refl _ _).drew))
  have HC3 : Hid (((w3.alloc (.cells #[.slice a3 m3 c3] 45)).alloc (.cells #[.slice a4 m4 c4] 45)).drew.cell? ⟨w3.heap.size, 0, none⟩ = some (.slice a3 m3 c3)) := by unfold Hid; simp [go_sem]
  have HC4 : Hid (((w3.alloc (.cells #[.slice a3 m3 c3] 45)).alloc (.cells #[.slice a4 m4 c4] 45)).drew.cell? ⟨w3.heap.size + 1, 0, none⟩ = some (.slice a4 m4 c4)) := by unfold Hid; simp [go_sem]
  clear hb hN3 hN4
  go_wp2_with fail
  refine wp_region_held_drew (S := fun w' => w'.cell? ⟨w3.heap.size, 0, none⟩ = some (.slice a3 m3 c3) ∧ w'.cell? ⟨w3.heap.size + 1, 0, none⟩ = some (.slice a4 m4 c4)) (by kernel_rfl) ?_ (fun hHeld => ?_)
  · (try dsimp only)
    exact ⟨unhide HC3, unhide HC4⟩
  refine lst0 13 (by kernel_rfl) ?_
  refine tkA 0 38 1 ?_
  refine tkA 1 39 3 ?_
  refine tkA 2 40 7 ?_
  refine tkA 3 41 15 ?_
  refine tkU 4 42 31 ?_
  refine tkU 5 43 63 ?_
  refine tkU 6 44 127 ?_
  refine rdA 7 255 (fun Kk hKk => ?_)
  go_simp
  refine hKk.out _ _ ?_ (fun hHeld => ?_)
  · (try dsimp only)
    exact hHeld
  clear hKk Kk
  (try simp only [List.setIfInBounds_toArray, List.set_cons_zero, List.set_cons_succ])
  refine rdA 8 511 (fun Kk hKk => ?_)
  go_simp
  refine hKk.out _ _ ?_ (fun hHeld => ?_)
  · (try dsimp only)
    exact hHeld
  clear hKk Kk
  (try simp only [List.setIfInBounds_toArray, List.set_cons_zero, List.set_cons_succ])
  refine rdA 9 1023 (fun Kk hKk => ?_)
  go_simp
  refine hKk.out _ _ ?_ (fun hHeld => ?_)
  · (try dsimp only)
    exact hHeld
  clear hKk Kk
  (try simp only [List.setIfInBounds_toArray, List.set_cons_zero, List.set_cons_succ])
  refine tkU 10 48 2047 ?_
  refine tkA 11 49 4095 ?_
  refine tkA 12 15 8191 ?_
  refine wpAnyH_done (by kernel_rfl) ?_ _
  clear hHeld
  have e3 := unhide HC3
  have e4 := unhide HC4
  go_wp2_with fail
  clear e3 e4
  refine (unhide HM1 _ _ _ _ (unhide HN3)).mono ?_
  rintro _ w8 ⟨rfl, hb⟩
  have HB := hide (bthen (unhide HB) hb)
  have HN3 := hide ((unhide HN3).below hb)
  have HN4 := hide ((unhide HN4).below hb)
  have HC3 := hide (keep1 hb (lt_of_cell (unhide HC3)) (unhide HC3))
  have HC4 := hide (keep1 hb (lt_of_cell (unhide HC4)) (unhide HC4))
  clear hb
  have e3 := unhide HC3
  have e4 := unhide HC4
  go_wp2_with fail
  clear e3 e4
  refine (unhide HM2 _ _ _ _ (unhide HN4)).mono ?_
  rintro _ w9 ⟨rfl, hb⟩
  have HB := hide (bthen (unhide HB) hb)
  clear hb
  go_wp2_with fail
  refine (unhide HP _).mono ?_
  rintro _ wA ⟨rfl, hb⟩
  have HB := hide (bthen (unhide HB) hb)
  clear hb
  go_wp2_with fail
  refine (unhide HR _).mono ?_
  rintro _ wB ⟨rfl, hb⟩
  have HB := hide (bthen (unhide HB) hb)
  clear hb
  go_wp2_with fail
  exact bodyPost_ret (v := .tuple #[.int .u64 p', .int .u64 r', .bool false]) (by simp [results, Try.results22, go_sem]) rfl ⟨rfl, unhide HB⟩
set_option maxHeartbeats 4000000 in
set_option maxRecDepth 100000 in
theorem rdivs_ft {w a b m n p r p' : Int} (HS1 : Ct 50 #[.int .i64 w, .int .u64 a] (.tuple #[.bool false, .int .u64 m])) (HS2 : Ct 50 #[.int .i64 w, .int .u64 b] (.tuple #[.bool true, .int .u64 n])) (m0 : 0 ≤ m) (m1 : m < 18446744073709551616) (n0 : 0 ≤ n) (n1 : n < 18446744073709551616) (hy0 : n.toNat ≠ 0) (HM1 : Hid (∀ (a1 : Option Addr) (m1 c1 : Nat) W, IsNat W (.slice a1 m1 c1) (m.toNat / n.toNat) → Calls Try.prog 39 #[.int .i64 w, .agg #[.slice a1 m1 c1]] W fun r' W' => r' = .returned (.int .u64 p) ∧ Below W.heap.size W W')) (HM2 : Hid (∀ (a1 : Option Addr) (m1 c1 : Nat) W, IsNat W (.slice a1 m1 c1) (m.toNat % n.toNat) → Calls Try.prog 39 #[.int .i64 w, .agg #[.slice a1 m1 c1]] W fun r' W' => r' = .returned (.int .u64 r) ∧ Below W.heap.size W W')) (HP : Ct 14 #[.int .i64 w, .int .u64 0, .int .u64 p] (.int .u64 p')) : Ct 22 #[.int .i64 w, .int .u64 a, .int .u64 b] (.tuple #[.int .u64 p', .int .u64 r, .bool false]) := by
  have hx : m.toNat < pw 2 := by rw [pw_2]; omega
  have hy : n.toNat < pw 2 := by rw [pw_2]; omega
  refine hide (fun W => ?_)
  have HB := hide (Below.refl W.heap.size W)
  go_enter Try.func22, Try.ntmps22
  go_wp2_with fail
  refine (unhide HS1 _).mono ?_
  rintro _ wx ⟨rfl, hb⟩
  have HB := hide (bthen (unhide HB) hb)
  clear hb
  go_wp2_with fail
  refine (unhide HS2 _).mono ?_
  rintro _ wy ⟨rfl, hb⟩
  have HB := hide (bthen (unhide HB) hb)
  clear hb
  go_wp2_with fail
  refine (refOf_any m _ m0 m1).mono ?_
  rintro _ w1 ⟨s1, rfl, hN, hb⟩
  obtain ⟨a1, m1, c1, rfl⟩ := hN.slice
  have HB := hide (bthen (unhide HB) hb)
  have HN1 := hide hN
  clear hb hN
  go_wp2_with fail
  refine (refOf_any n _ n0 n1).mono ?_
  rintro _ w2 ⟨s2, rfl, hN, hb⟩
  obtain ⟨a2, m2, c2, rfl⟩ := hN.slice
  have HB := hide (bthen (unhide HB) hb)
  have HN1 := hide ((unhide HN1).below hb)
  have HN2 := hide hN
  clear hb hN
  go_wp2_with fail
  refine (refDiv_any _ _ _ _ _ _ _ _ _ (unhide HN1) (unhide HN2) hy0 (lt_pw 300 hx (by omega)) (lt_pw 300 hy (by omega))).mono ?_
  rintro _ w3 ⟨s3, s4, rfl, hN3, hN4, hb⟩
  obtain ⟨a3, m3, c3, rfl⟩ := hN3.slice
  obtain ⟨a4, m4, c4, rfl⟩ := hN4.slice
  have HB := hide ((balloc (balloc (bthen (unhide HB) hb) (.cells #[.slice a3 m3 c3] 45)) (.cells #[.slice a4 m4 c4] 45)).drew)
  have HN3 := hide (((hN3.alloc (.cells #[.slice a3 m3 c3] 45)).alloc (.cells #[.slice a4 m4 c4] 45)).below ((Below.refl _ _).drew))
  have HN4 := hide (((hN4.alloc (.cells #[.slice a3 m3 c3] 45)).alloc (.cells #[.slice a4 m4 c4] 45)).below ((Below.refl _ _).drew))
  have HC3 : Hid (((w3.alloc (.cells #[.slice a3 m3 c3] 45)).alloc (.cells #[.slice a4 m4 c4] 45)).drew.cell? ⟨w3.heap.size, 0, none⟩ = some (.slice a3 m3 c3)) := by unfold Hid; simp [go_sem]
  have HC4 : Hid (((w3.alloc (.cells #[.slice a3 m3 c3] 45)).alloc (.cells #[.slice a4 m4 c4] 45)).drew.cell? ⟨w3.heap.size + 1, 0, none⟩ = some (.slice a4 m4 c4)) := by unfold Hid; simp [go_sem]
  clear hb hN3 hN4
  go_wp2_with fail
  refine wp_region_held_drew (S := fun w' => w'.cell? ⟨w3.heap.size, 0, none⟩ = some (.slice a3 m3 c3) ∧ w'.cell? ⟨w3.heap.size + 1, 0, none⟩ = some (.slice a4 m4 c4)) (by kernel_rfl) ?_ (fun hHeld => ?_)
  · (try dsimp only)
    exact ⟨unhide HC3, unhide HC4⟩
  refine lst0 13 (by kernel_rfl) ?_
  refine tkA 0 38 1 ?_
  refine tkA 1 39 3 ?_
  refine tkA 2 40 7 ?_
  refine tkA 3 41 15 ?_
  refine tkU 4 42 31 ?_
  refine tkU 5 43 63 ?_
  refine tkU 6 44 127 ?_
  refine rdA 7 255 (fun Kk hKk => ?_)
  go_simp
  refine hKk.out _ _ ?_ (fun hHeld => ?_)
  · (try dsimp only)
    exact hHeld
  clear hKk Kk
  (try simp only [List.setIfInBounds_toArray, List.set_cons_zero, List.set_cons_succ])
  refine rdA 8 511 (fun Kk hKk => ?_)
  go_simp
  refine hKk.out _ _ ?_ (fun hHeld => ?_)
  · (try dsimp only)
    exact hHeld
  clear hKk Kk
  (try simp only [List.setIfInBounds_toArray, List.set_cons_zero, List.set_cons_succ])
  refine rdA 9 1023 (fun Kk hKk => ?_)
  go_simp
  refine hKk.out _ _ ?_ (fun hHeld => ?_)
  · (try dsimp only)
    exact hHeld
  clear hKk Kk
  (try simp only [List.setIfInBounds_toArray, List.set_cons_zero, List.set_cons_succ])
  refine tkU 10 48 2047 ?_
  refine tkA 11 49 4095 ?_
  refine tkA 12 15 8191 ?_
  refine wpAnyH_done (by kernel_rfl) ?_ _
  clear hHeld
  have e3 := unhide HC3
  have e4 := unhide HC4
  go_wp2_with fail
  clear e3 e4
  refine (unhide HM1 _ _ _ _ (unhide HN3)).mono ?_
  rintro _ w8 ⟨rfl, hb⟩
  have HB := hide (bthen (unhide HB) hb)
  have HN3 := hide ((unhide HN3).below hb)
  have HN4 := hide ((unhide HN4).below hb)
  have HC3 := hide (keep1 hb (lt_of_cell (unhide HC3)) (unhide HC3))
  have HC4 := hide (keep1 hb (lt_of_cell (unhide HC4)) (unhide HC4))
  clear hb
  have e3 := unhide HC3
  have e4 := unhide HC4
  go_wp2_with fail
  clear e3 e4
  refine (unhide HM2 _ _ _ _ (unhide HN4)).mono ?_
  rintro _ w9 ⟨rfl, hb⟩
  have HB := hide (bthen (unhide HB) hb)
  clear hb
  go_wp2_with fail
  refine (unhide HP _).mono ?_
  rintro _ wA ⟨rfl, hb⟩
  have HB := hide (bthen (unhide HB) hb)
  clear hb
  go_wp2_with fail
  exact bodyPost_ret (v := .tuple #[.int .u64 p', .int .u64 r, .bool false]) (by simp [results, Try.results22, go_sem]) rfl ⟨rfl, unhide HB⟩
set_option maxHeartbeats 4000000 in
set_option maxRecDepth 100000 in
theorem rdivs_ff {w a b m n p r j T : Int} (HS1 : Ct 50 #[.int .i64 w, .int .u64 a] (.tuple #[.bool false, .int .u64 m])) (HS2 : Ct 50 #[.int .i64 w, .int .u64 b] (.tuple #[.bool false, .int .u64 n])) (m0 : 0 ≤ m) (m1 : m < 18446744073709551616) (n0 : 0 ≤ n) (n1 : n < 18446744073709551616) (hy0 : n.toNat ≠ 0) (HM1 : Hid (∀ (a1 : Option Addr) (m1 c1 : Nat) W, IsNat W (.slice a1 m1 c1) (m.toNat / n.toNat) → Calls Try.prog 39 #[.int .i64 w, .agg #[.slice a1 m1 c1]] W fun r' W' => r' = .returned (.int .u64 p) ∧ Below W.heap.size W W')) (HM2 : Hid (∀ (a1 : Option Addr) (m1 c1 : Nat) W, IsNat W (.slice a1 m1 c1) (m.toNat % n.toNat) → Calls Try.prog 39 #[.int .i64 w, .agg #[.slice a1 m1 c1]] W fun r' W' => r' = .returned (.int .u64 r) ∧ Below W.heap.size W W')) (hj : IntKind.i64.wrap (w - 1) = j) (HT : Ct 52 #[.int .i64 j] (.int .u64 T)) (T0 : 0 ≤ T) (T1 : T < 18446744073709551616) : Ct 22 #[.int .i64 w, .int .u64 a, .int .u64 b] (.tuple #[.int .u64 p, .int .u64 r, .bool (cmpN (m.toNat / n.toNat) T.toNat == 0)]) := by
  have hx : m.toNat < pw 2 := by rw [pw_2]; omega
  have hy : n.toNat < pw 2 := by rw [pw_2]; omega
  refine hide (fun W => ?_)
  have HB := hide (Below.refl W.heap.size W)
  go_enter Try.func22, Try.ntmps22
  go_wp2_with fail
  refine (unhide HS1 _).mono ?_
  rintro _ wx ⟨rfl, hb⟩
  have HB := hide (bthen (unhide HB) hb)
  clear hb
  go_wp2_with fail
  refine (unhide HS2 _).mono ?_
  rintro _ wy ⟨rfl, hb⟩
  have HB := hide (bthen (unhide HB) hb)
  clear hb
  go_wp2_with fail
  refine (refOf_any m _ m0 m1).mono ?_
  rintro _ w1 ⟨s1, rfl, hN, hb⟩
  obtain ⟨a1, m1, c1, rfl⟩ := hN.slice
  have HB := hide (bthen (unhide HB) hb)
  have HN1 := hide hN
  clear hb hN
  go_wp2_with fail
  refine (refOf_any n _ n0 n1).mono ?_
  rintro _ w2 ⟨s2, rfl, hN, hb⟩
  obtain ⟨a2, m2, c2, rfl⟩ := hN.slice
  have HB := hide (bthen (unhide HB) hb)
  have HN1 := hide ((unhide HN1).below hb)
  have HN2 := hide hN
  clear hb hN
  go_wp2_with fail
  refine (refDiv_any _ _ _ _ _ _ _ _ _ (unhide HN1) (unhide HN2) hy0 (lt_pw 300 hx (by omega)) (lt_pw 300 hy (by omega))).mono ?_
  rintro _ w3 ⟨s3, s4, rfl, hN3, hN4, hb⟩
  obtain ⟨a3, m3, c3, rfl⟩ := hN3.slice
  obtain ⟨a4, m4, c4, rfl⟩ := hN4.slice
  have HB := hide ((balloc (balloc (bthen (unhide HB) hb) (.cells #[.slice a3 m3 c3] 45)) (.cells #[.slice a4 m4 c4] 45)).drew)
  have HN3 := hide (((hN3.alloc (.cells #[.slice a3 m3 c3] 45)).alloc (.cells #[.slice a4 m4 c4] 45)).below ((Below.refl _ _).drew))
  have HN4 := hide (((hN4.alloc (.cells #[.slice a3 m3 c3] 45)).alloc (.cells #[.slice a4 m4 c4] 45)).below ((Below.refl _ _).drew))
  have HC3 : Hid (((w3.alloc (.cells #[.slice a3 m3 c3] 45)).alloc (.cells #[.slice a4 m4 c4] 45)).drew.cell? ⟨w3.heap.size, 0, none⟩ = some (.slice a3 m3 c3)) := by unfold Hid; simp [go_sem]
  have HC4 : Hid (((w3.alloc (.cells #[.slice a3 m3 c3] 45)).alloc (.cells #[.slice a4 m4 c4] 45)).drew.cell? ⟨w3.heap.size + 1, 0, none⟩ = some (.slice a4 m4 c4)) := by unfold Hid; simp [go_sem]
  clear hb hN3 hN4
  go_wp2_with fail
  refine wp_region_held_drew (S := fun w' => w'.cell? ⟨w3.heap.size, 0, none⟩ = some (.slice a3 m3 c3) ∧ w'.cell? ⟨w3.heap.size + 1, 0, none⟩ = some (.slice a4 m4 c4)) (by kernel_rfl) ?_ (fun hHeld => ?_)
  · (try dsimp only)
    exact ⟨unhide HC3, unhide HC4⟩
  refine lst0 13 (by kernel_rfl) ?_
  refine tkA 0 38 1 ?_
  refine tkA 1 39 3 ?_
  refine tkA 2 40 7 ?_
  refine tkA 3 41 15 ?_
  refine tkA 4 42 31 ?_
  refine tkA 5 43 63 ?_
  refine tkA 6 44 127 ?_
  refine rdA 7 255 (fun Kk hKk => ?_)
  go_simp
  refine (unhide HT _).mono ?_
  rintro _ w5 ⟨rfl, hb⟩
  have HB := hide (bthen (unhide HB) hb)
  have HN3 := hide ((unhide HN3).below hb)
  have HN4 := hide ((unhide HN4).below hb)
  have HC3 := hide (keep1 hb (lt_of_cell (unhide HC3)) (unhide HC3))
  have HC4 := hide (keep1 hb (lt_of_cell (unhide HC4)) (unhide HC4))
  clear hb
  (try go_wp2_with fail)
  refine hKk.out _ _ ?_ (fun hHeld => ?_)
  · (try dsimp only)
    exact ⟨unhide HC3, unhide HC4⟩
  clear hKk Kk
  (try simp only [List.setIfInBounds_toArray, List.set_cons_zero, List.set_cons_succ])
  refine rdA 8 511 (fun Kk hKk => ?_)
  go_simp
  refine (refOf_any T _ T0 T1).mono ?_
  rintro _ w6 ⟨s6, rfl, hN, hb⟩
  obtain ⟨a6, m6, c6, rfl⟩ := hN.slice
  have HB := hide (bthen (unhide HB) hb)
  have HN3 := hide ((unhide HN3).below hb)
  have HN4 := hide ((unhide HN4).below hb)
  have HC3 := hide (keep1 hb (lt_of_cell (unhide HC3)) (unhide HC3))
  have HC4 := hide (keep1 hb (lt_of_cell (unhide HC4)) (unhide HC4))
  have H6 := hide hN
  clear hb hN
  (try go_wp2_with fail)
  refine hKk.out _ _ ?_ (fun hHeld => ?_)
  · (try dsimp only)
    exact ⟨unhide HC3, unhide HC4⟩
  clear hKk Kk
  (try simp only [List.setIfInBounds_toArray, List.set_cons_zero, List.set_cons_succ])
  refine rdA 9 1023 (fun Kk hKk => ?_)
  go_simp
  refine (refCmp_any _ _ _ _ _ _ _ _ _ (unhide HN3) (unhide H6)).mono ?_
  rintro _ w7 ⟨rfl, hb⟩
  have HB := hide (bthen (unhide HB) hb)
  have HN3 := hide ((unhide HN3).below hb)
  have HN4 := hide ((unhide HN4).below hb)
  have HC3 := hide (keep1 hb (lt_of_cell (unhide HC3)) (unhide HC3))
  have HC4 := hide (keep1 hb (lt_of_cell (unhide HC4)) (unhide HC4))
  clear hb H6
  (try go_wp2_with fail)
  refine hKk.out _ _ ?_ (fun hHeld => ?_)
  · (try dsimp only)
    exact ⟨unhide HC3, unhide HC4⟩
  clear hKk Kk
  (try simp only [List.setIfInBounds_toArray, List.set_cons_zero, List.set_cons_succ])
  refine tkA 10 48 2047 ?_
  refine tkA 11 49 4095 ?_
  refine tkA 12 15 8191 ?_
  refine wpAnyH_done (by kernel_rfl) ?_ _
  clear hHeld
  have e3 := unhide HC3
  have e4 := unhide HC4
  go_wp2_with fail
  clear e3 e4
  refine (unhide HM1 _ _ _ _ (unhide HN3)).mono ?_
  rintro _ w8 ⟨rfl, hb⟩
  have HB := hide (bthen (unhide HB) hb)
  have HN3 := hide ((unhide HN3).below hb)
  have HN4 := hide ((unhide HN4).below hb)
  have HC3 := hide (keep1 hb (lt_of_cell (unhide HC3)) (unhide HC3))
  have HC4 := hide (keep1 hb (lt_of_cell (unhide HC4)) (unhide HC4))
  clear hb
  have e3 := unhide HC3
  have e4 := unhide HC4
  go_wp2_with fail
  clear e3 e4
  refine (unhide HM2 _ _ _ _ (unhide HN4)).mono ?_
  rintro _ w9 ⟨rfl, hb⟩
  have HB := hide (bthen (unhide HB) hb)
  clear hb
  go_wp2_with fail
  exact bodyPost_ret (v := .tuple #[.int .u64 p, .int .u64 r, .bool (cmpN (m.toNat / n.toNat) T.toNat == 0)]) (by simp [results, Try.results22, go_sem]) rfl ⟨rfl, unhide HB⟩
end Go.Proofs.Ytjlegmgpgfjciaa
