/- CsR. -/
import Derived.Test.YtahdcbjfabccpaaDoorM11
import Derived.Test.YtahdcbjfabccpaaDoorM13
import Derived.Test.YtahdcbjfabccpaaDoorM16
import Derived.Test.YtahdcbjfabccpaaDoorM20
import Derived.Test.YtahdcbjfabccpaaDoorM27
namespace Go.Proofs.YtahdcbjfabccpaaDoor
open Go.RowKit
open Go.Proofs.YtahdcbjfabccpaaDoor.W

set_option maxHeartbeats 4000000 in
set_option maxRecDepth 100000 in
theorem signed_p {k x c j T : Int} (W : World) (HC : Ct 22 #[.int .i64 k, .int .u64 x] (.int .u64 c)) (h1 : IntKind.i64.wrap (k - 1) = j) (HT : Ct 44 #[.int .i64 j] (.int .u64 T)) (g : c < T) :
    Calls Tryd.prog 23 #[.int .i64 k, .int .u64 x] W fun r W' => r = .returned (.tuple #[.bool false, .int .u64 c]) ∧ Below W.heap.size W W' := by
  have HB := hide (Below.refl W.heap.size W)
  go_enter Tryd.func23, Tryd.ntmps23
  go_wp2_with fail
  refine (unhide HC _).mono ?_
  rintro _ w1 ⟨rfl, hb⟩
  have HB := hide (bthen (unhide HB) hb)
  clear hb
  go_wp2_with fail
  refine (unhide HT _).mono ?_
  rintro _ w2 ⟨rfl, hb⟩
  have HB := hide (bthen (unhide HB) hb)
  clear hb
  go_wp2_with fail
  go_ret2
  exact ⟨rfl, unhide HB⟩
set_option maxHeartbeats 4000000 in
set_option maxRecDepth 100000 in
theorem signed_32 {x c T R : Int} (W : World) (HC : Ct 22 #[.int .i64 32, .int .u64 x] (.int .u64 c)) (HT : Ct 44 #[.int .i64 31] (.int .u64 T)) (g : ¬ c < T) (h : IntKind.u64.wrap (4294967296 - c) = R) :
    Calls Tryd.prog 23 #[.int .i64 32, .int .u64 x] W fun r W' => r = .returned (.tuple #[.bool true, .int .u64 R]) ∧ Below W.heap.size W W' := by
  have HB := hide (Below.refl W.heap.size W)
  go_enter Tryd.func23, Tryd.ntmps23
  go_wp2_with fail
  refine (unhide HC _).mono ?_
  rintro _ w1 ⟨rfl, hb⟩
  have HB := hide (bthen (unhide HB) hb)
  clear hb
  go_wp2_with fail
  refine (unhide HT _).mono ?_
  rintro _ w2 ⟨rfl, hb⟩
  have HB := hide (bthen (unhide HB) hb)
  clear hb
  go_wp2_with fail
  go_ret2
  exact ⟨rfl, unhide HB⟩
set_option maxHeartbeats 4000000 in
set_option maxRecDepth 100000 in
theorem signed_64 {x c T R S : Int} (W : World) (HC : Ct 22 #[.int .i64 64, .int .u64 x] (.int .u64 c)) (HT : Ct 44 #[.int .i64 63] (.int .u64 T)) (g : ¬ c < T) (h : IntKind.u64.wrap (18446744073709551615 - c) = S) (h' : IntKind.u64.wrap (S + 1) = R) :
    Calls Tryd.prog 23 #[.int .i64 64, .int .u64 x] W fun r W' => r = .returned (.tuple #[.bool true, .int .u64 R]) ∧ Below W.heap.size W W' := by
  have HB := hide (Below.refl W.heap.size W)
  go_enter Tryd.func23, Tryd.ntmps23
  go_wp2_with fail
  refine (unhide HC _).mono ?_
  rintro _ w1 ⟨rfl, hb⟩
  have HB := hide (bthen (unhide HB) hb)
  clear hb
  go_wp2_with fail
  refine (unhide HT _).mono ?_
  rintro _ w2 ⟨rfl, hb⟩
  have HB := hide (bthen (unhide HB) hb)
  clear hb
  go_wp2_with fail
  go_ret2
  exact ⟨rfl, unhide HB⟩
set_option maxHeartbeats 4000000 in
set_option maxRecDepth 100000 in
theorem refMake_f {w k x c V : Int} (W : World) (HC : Ct 22 #[.int .i64 k, .int .u64 x] (.int .u64 c))  (c0 : 0 ≤ c) (c1 : c < 18446744073709551616) (HX : Hid (∀ (p : Option Addr) (np cp : Nat) (W : World), IsNat W (.slice p np cp) (c : Int).toNat → Calls Tryd.prog 24 #[.int .i64 w, .bool false, .agg #[.slice p np cp], .int .i64 0] W fun r W' => r = .returned (.int .u64 V) ∧ Below W.heap.size W W')) :
    Calls Tryd.prog 10 #[.int .i64 w, .int .i64 k, .int .u64 x, .bool false] W fun r W' => r = .returned (.int .u64 V) ∧ Below W.heap.size W W' := by
  have hz : IntKind.i64.wrap 0 = 0 := by decide
  have HB := hide (Below.refl W.heap.size W)
  go_enter Tryd.func10, Tryd.ntmps10
  go_wp2_with fail
  refine (unhide HC _).mono ?_
  rintro _ w1 ⟨rfl, hb⟩
  have HB := hide (bthen (unhide HB) hb)
  clear hb
  go_wp2_with fail
  refine (refOf_any c _ (c0 : 0 ≤ c) (c1 : c < 18446744073709551616)).mono ?_
  rintro _ w3 ⟨s3, rfl, hN, hb⟩
  obtain ⟨p3, n3, c3, rfl⟩ := hN.slice
  have HN3 := hide hN
  have HB := hide (bthen (unhide HB) hb)
  clear hb hN
  go_wp2_with fail
  refine (unhide HX _ _ _ _ (unhide HN3)).mono ?_
  rintro _ w4 ⟨rfl, hb⟩
  have HB := hide (bthen (unhide HB) hb)
  clear hb HN3
  go_wp2_with fail
  go_ret
  exact ⟨rfl, unhide HB⟩
set_option maxHeartbeats 4000000 in
set_option maxRecDepth 100000 in
theorem refExact_fz {w k x c V K E S : Int} {n : Bool} (W : World) (HC : Ct 22 #[.int .i64 k, .int .u64 x] (.int .u64 c))  (c0 : 0 ≤ c) (c1 : c < 18446744073709551616) (HX : Hid (∀ (p : Option Addr) (np cp : Nat) (W : World), IsNat W (.slice p np cp) (c : Int).toNat → Calls Tryd.prog 24 #[.int .i64 w, .bool false, .agg #[.slice p np cp], .int .i64 0] W fun r W' => r = .returned (.int .u64 V) ∧ Below W.heap.size W W')) (HO : Ct 26 #[.int .i64 w, .int .u64 V] (.agg #[.bool n, .int .i64 K, .int .i64 E, .int .u64 S])) (g : (K == 0) = true) :
    Calls Tryd.prog 11 #[.int .i64 w, .int .i64 k, .int .u64 x, .bool false] W fun r W' => r = .returned (.bool (c == 0)) ∧ Below W.heap.size W W' := by
  have hz : IntKind.i64.wrap 0 = 0 := by decide
  have HB := hide (Below.refl W.heap.size W)
  go_enter Tryd.func11, Tryd.ntmps11
  go_wp2_with fail
  refine (unhide HC _).mono ?_
  rintro _ w1 ⟨rfl, hb⟩
  have HB := hide (bthen (unhide HB) hb)
  clear hb
  go_wp2_with fail
  refine (refOf_any c _ (c0 : 0 ≤ c) (c1 : c < 18446744073709551616)).mono ?_
  rintro _ w3 ⟨s3, rfl, hN, hb⟩
  obtain ⟨p3, n3, c3, rfl⟩ := hN.slice
  have HN3 := hide hN
  have HB := hide (bthen (unhide HB) hb)
  clear hb hN
  go_wp2_with fail
  refine (unhide HX _ _ _ _ (unhide HN3)).mono ?_
  rintro _ w4 ⟨rfl, hb⟩
  have HB := hide (bthen (unhide HB) hb)
  clear hb HN3
  go_wp2_with fail
  refine (unhide HO _).mono ?_
  rintro _ w5 ⟨rfl, hb⟩
  have HB := hide (balloc (bthen (unhide HB) hb) (.cells #[.bool n, .int .i64 K, .int .i64 E, .int .u64 S] 47))
  have HA := hide (at4_new w5 (.bool n) (.int .i64 K) (.int .i64 E) (.int .u64 S) 47)
  clear hb
  go_wp2_with fail
  go_ret
  exact ⟨rfl, unhide HB⟩
set_option maxHeartbeats 4000000 in
set_option maxRecDepth 100000 in
theorem refExact_fn {w k x c V K E S : Int} {n : Bool} (W : World) (HC : Ct 22 #[.int .i64 k, .int .u64 x] (.int .u64 c))  (c0 : 0 ≤ c) (c1 : c < 18446744073709551616) (HX : Hid (∀ (p : Option Addr) (np cp : Nat) (W : World), IsNat W (.slice p np cp) (c : Int).toNat → Calls Tryd.prog 24 #[.int .i64 w, .bool false, .agg #[.slice p np cp], .int .i64 0] W fun r W' => r = .returned (.int .u64 V) ∧ Below W.heap.size W W')) (HO : Ct 26 #[.int .i64 w, .int .u64 V] (.agg #[.bool n, .int .i64 K, .int .i64 E, .int .u64 S])) (g : (K == 0) = false) (s0 : 0 ≤ S) (s1 : S < 18446744073709551616) (gE : ¬ 0 < E) (e0 : -10000 ≤ E) (h1 : IntKind.i64.wrap (-E) = -E) :
    Calls Tryd.prog 11 #[.int .i64 w, .int .i64 k, .int .u64 x, .bool false] W fun r W' => r = .returned (.bool (cmpN S.toNat (c.toNat * 2 ^ (-E).toNat) == 0)) ∧ Below W.heap.size W W' := by
  have hz : IntKind.i64.wrap 0 = 0 := by decide
  have HB := hide (Below.refl W.heap.size W)
  go_enter Tryd.func11, Tryd.ntmps11
  go_wp2_with fail
  refine (unhide HC _).mono ?_
  rintro _ w1 ⟨rfl, hb⟩
  have HB := hide (bthen (unhide HB) hb)
  clear hb
  go_wp2_with fail
  refine (refOf_any c _ (c0 : 0 ≤ c) (c1 : c < 18446744073709551616)).mono ?_
  rintro _ w3 ⟨s3, rfl, hN, hb⟩
  obtain ⟨p3, n3, c3, rfl⟩ := hN.slice
  have HN3 := hide hN
  have HB := hide (bthen (unhide HB) hb)
  clear hb hN
  go_wp2_with fail
  refine (unhide HX _ _ _ _ (unhide HN3)).mono ?_
  rintro _ w4 ⟨rfl, hb⟩
  have HB := hide (bthen (unhide HB) hb)
  clear hb HN3
  go_wp2_with fail
  refine (unhide HO _).mono ?_
  rintro _ w5 ⟨rfl, hb⟩
  have HB := hide (balloc (bthen (unhide HB) hb) (.cells #[.bool n, .int .i64 K, .int .i64 E, .int .u64 S] 47))
  have HA := hide (at4_new w5 (.bool n) (.int .i64 K) (.int .i64 E) (.int .u64 S) 47)
  clear hb
  go_wp2_with fail
  have HB := hide ((unhide HB).drew)
  have HA := hide ((unhide HA).below ((Below.refl _ _).drew))
  refine wp_region_held_drew (S := fun w' => w'.cell? ⟨w5.heap.size, 0, none⟩ = some (.bool n) ∧ w'.cell? ⟨w5.heap.size, 1, none⟩ = some (.int .i64 K) ∧ w'.cell? ⟨w5.heap.size, 2, none⟩ = some (.int .i64 E) ∧ w'.cell? ⟨w5.heap.size, 3, none⟩ = some (.int .u64 S)) (by kernel_rfl) ?_ (fun hHeld => ?_)
  · (try dsimp only)
    exact unhide HA
  refine lst0 16 (by kernel_rfl) ?_
  refine tkA 0 36 1 ?_
  refine tkA 1 37 3 ?_
  refine tkA 3 39 11 ?_
  refine tkA 4 40 27 ?_
  refine tkA 5 41 59 ?_
  refine tkA 6 42 123 ?_
  refine tkA 8 44 379 ?_
  refine tkA 10 46 1403 ?_
  refine tkA 11 47 3451 ?_
  refine rdA 2 3455 (fun Kk hKk => ?_)
  go_simp
  refine (refOf_any S _ (by assumption) (by assumption)).mono ?_
  rintro _ w6 ⟨s6, rfl, hN, hb⟩
  obtain ⟨p6, n6, c6, rfl⟩ := hN.slice
  have HN6 := hide hN
  have HB := hide (bthen (unhide HB) hb)
  have HA := hide ((unhide HA).below hb)
  clear hb hN
  (try go_wp2_with fail)
  refine hKk.out _ _ ?_ (fun hHeld => ?_)
  · (try dsimp only)
    exact unhide HA
  clear hKk Kk
  (try simp only [List.setIfInBounds_toArray, List.set_cons_zero, List.set_cons_succ])
  refine rdA 7 3583 (fun Kk hKk => ?_)
  go_simp
  refine (shl_int _ _ _ _ _ _ (unhide HN6) (Nat.le_trans ((unhide HN6).short (k := 2) (by rw [pw_2]; omega)) (by omega)) (by omega) (by omega)).mono ?_
  rintro _ w7 ⟨s7, rfl, hN, hb⟩
  obtain ⟨p7, n7, c7, rfl⟩ := hN.slice
  have HN7 := hide hN
  have HB := hide (bthen (unhide HB) hb)
  have HA := hide ((unhide HA).below hb)
  clear hb hN
  (try go_wp2_with fail)
  refine hKk.out _ _ ?_ (fun hHeld => ?_)
  · (try dsimp only)
    exact unhide HA
  clear hKk Kk
  (try simp only [List.setIfInBounds_toArray, List.set_cons_zero, List.set_cons_succ])
  refine rdA 9 4095 (fun Kk hKk => ?_)
  go_simp
  refine (refOf_any c _ (by assumption) (by assumption)).mono ?_
  rintro _ w8 ⟨s8, rfl, hN, hb⟩
  obtain ⟨p8, n8, c8, rfl⟩ := hN.slice
  have HN8 := hide hN
  have HB := hide (bthen (unhide HB) hb)
  have HA := hide ((unhide HA).below hb)
  have HN7 := hide ((unhide HN7).below hb)
  clear hb hN
  (try go_wp2_with fail)
  refine hKk.out _ _ ?_ (fun hHeld => ?_)
  · (try dsimp only)
    exact unhide HA
  clear hKk Kk
  (try simp only [List.setIfInBounds_toArray, List.set_cons_zero, List.set_cons_succ])
  refine rdA 12 8191 (fun Kk hKk => ?_)
  go_simp
  refine (shl_int _ _ _ _ _ _ (unhide HN8) (Nat.le_trans ((unhide HN8).short (k := 2) (by rw [pw_2]; omega)) (by omega)) (by omega) (by omega)).mono ?_
  rintro _ w9 ⟨s9, rfl, hN, hb⟩
  obtain ⟨p9, n9, c9, rfl⟩ := hN.slice
  have HN9 := hide hN
  have HB := hide (bthen (unhide HB) hb)
  have HA := hide ((unhide HA).below hb)
  have HN7 := hide ((unhide HN7).below hb)
  clear hb hN
  (try go_wp2_with fail)
  refine hKk.out _ _ ?_ (fun hHeld => ?_)
  · (try dsimp only)
    exact unhide HA
  clear hKk Kk
  (try simp only [List.setIfInBounds_toArray, List.set_cons_zero, List.set_cons_succ])
  refine rdA 13 16383 (fun Kk hKk => ?_)
  go_simp
  refine (refCmp_any _ _ _ _ _ _ _ _ _ (unhide HN7) (unhide HN9)).mono ?_
  rintro _ w10 ⟨rfl, hb⟩
  have HB := hide (bthen (unhide HB) hb)
  have HA := hide ((unhide HA).below hb)
  clear hb
  (try go_wp2_with fail)
  refine hKk.out _ _ ?_ (fun hHeld => ?_)
  · (try dsimp only)
    exact unhide HA
  clear hKk Kk
  (try simp only [List.setIfInBounds_toArray, List.set_cons_zero, List.set_cons_succ])
  refine tkA 14 50 32767 ?_
  refine tkA 15 8 65535 ?_
  refine wpAnyH_done (by kernel_rfl) ?_ _
  go_wp2
  go_ret
  exact ⟨rfl, unhide HB⟩
set_option maxHeartbeats 4000000 in
set_option maxRecDepth 100000 in
theorem refExact_fp {w k x c V K E S : Int} {n : Bool} (W : World) (HC : Ct 22 #[.int .i64 k, .int .u64 x] (.int .u64 c))  (c0 : 0 ≤ c) (c1 : c < 18446744073709551616) (HX : Hid (∀ (p : Option Addr) (np cp : Nat) (W : World), IsNat W (.slice p np cp) (c : Int).toNat → Calls Tryd.prog 24 #[.int .i64 w, .bool false, .agg #[.slice p np cp], .int .i64 0] W fun r W' => r = .returned (.int .u64 V) ∧ Below W.heap.size W W')) (HO : Ct 26 #[.int .i64 w, .int .u64 V] (.agg #[.bool n, .int .i64 K, .int .i64 E, .int .u64 S])) (g : (K == 0) = false) (s0 : 0 ≤ S) (s1 : S < 18446744073709551616) (gE : 0 < E) (e1 : E ≤ 10000) (h1 : IntKind.i64.wrap E = E) :
    Calls Tryd.prog 11 #[.int .i64 w, .int .i64 k, .int .u64 x, .bool false] W fun r W' => r = .returned (.bool (cmpN (S.toNat * 2 ^ E.toNat) c.toNat == 0)) ∧ Below W.heap.size W W' := by
  have hz : IntKind.i64.wrap 0 = 0 := by decide
  have HB := hide (Below.refl W.heap.size W)
  go_enter Tryd.func11, Tryd.ntmps11
  go_wp2_with fail
  refine (unhide HC _).mono ?_
  rintro _ w1 ⟨rfl, hb⟩
  have HB := hide (bthen (unhide HB) hb)
  clear hb
  go_wp2_with fail
  refine (refOf_any c _ (c0 : 0 ≤ c) (c1 : c < 18446744073709551616)).mono ?_
  rintro _ w3 ⟨s3, rfl, hN, hb⟩
  obtain ⟨p3, n3, c3, rfl⟩ := hN.slice
  have HN3 := hide hN
  have HB := hide (bthen (unhide HB) hb)
  clear hb hN
  go_wp2_with fail
  refine (unhide HX _ _ _ _ (unhide HN3)).mono ?_
  rintro _ w4 ⟨rfl, hb⟩
  have HB := hide (bthen (unhide HB) hb)
  clear hb HN3
  go_wp2_with fail
  refine (unhide HO _).mono ?_
  rintro _ w5 ⟨rfl, hb⟩
  have HB := hide (balloc (bthen (unhide HB) hb) (.cells #[.bool n, .int .i64 K, .int .i64 E, .int .u64 S] 47))
  have HA := hide (at4_new w5 (.bool n) (.int .i64 K) (.int .i64 E) (.int .u64 S) 47)
  clear hb
  go_wp2_with fail
  have HB := hide ((unhide HB).drew)
  have HA := hide ((unhide HA).below ((Below.refl _ _).drew))
  refine wp_region_held_drew (S := fun w' => w'.cell? ⟨w5.heap.size, 0, none⟩ = some (.bool n) ∧ w'.cell? ⟨w5.heap.size, 1, none⟩ = some (.int .i64 K) ∧ w'.cell? ⟨w5.heap.size, 2, none⟩ = some (.int .i64 E) ∧ w'.cell? ⟨w5.heap.size, 3, none⟩ = some (.int .u64 S)) (by kernel_rfl) ?_ (fun hHeld => ?_)
  · (try dsimp only)
    exact unhide HA
  refine lst0 16 (by kernel_rfl) ?_
  refine tkA 0 36 1 ?_
  refine tkA 1 37 3 ?_
  refine tkA 3 39 11 ?_
  refine tkA 4 40 27 ?_
  refine tkA 5 41 59 ?_
  refine tkA 6 42 123 ?_
  refine tkA 8 44 379 ?_
  refine tkA 10 46 1403 ?_
  refine tkA 11 47 3451 ?_
  refine rdA 2 3455 (fun Kk hKk => ?_)
  go_simp
  refine (refOf_any S _ (by assumption) (by assumption)).mono ?_
  rintro _ w6 ⟨s6, rfl, hN, hb⟩
  obtain ⟨p6, n6, c6, rfl⟩ := hN.slice
  have HN6 := hide hN
  have HB := hide (bthen (unhide HB) hb)
  have HA := hide ((unhide HA).below hb)
  clear hb hN
  (try go_wp2_with fail)
  refine hKk.out _ _ ?_ (fun hHeld => ?_)
  · (try dsimp only)
    exact unhide HA
  clear hKk Kk
  (try simp only [List.setIfInBounds_toArray, List.set_cons_zero, List.set_cons_succ])
  refine rdA 7 3583 (fun Kk hKk => ?_)
  go_simp
  refine (shl_int _ _ _ _ _ _ (unhide HN6) (Nat.le_trans ((unhide HN6).short (k := 2) (by rw [pw_2]; omega)) (by omega)) (by omega) (by omega)).mono ?_
  rintro _ w7 ⟨s7, rfl, hN, hb⟩
  obtain ⟨p7, n7, c7, rfl⟩ := hN.slice
  have HN7 := hide hN
  have HB := hide (bthen (unhide HB) hb)
  have HA := hide ((unhide HA).below hb)
  clear hb hN
  (try go_wp2_with fail)
  refine hKk.out _ _ ?_ (fun hHeld => ?_)
  · (try dsimp only)
    exact unhide HA
  clear hKk Kk
  (try simp only [List.setIfInBounds_toArray, List.set_cons_zero, List.set_cons_succ])
  refine rdA 9 4095 (fun Kk hKk => ?_)
  go_simp
  refine (refOf_any c _ (by assumption) (by assumption)).mono ?_
  rintro _ w8 ⟨s8, rfl, hN, hb⟩
  obtain ⟨p8, n8, c8, rfl⟩ := hN.slice
  have HN8 := hide hN
  have HB := hide (bthen (unhide HB) hb)
  have HA := hide ((unhide HA).below hb)
  have HN7 := hide ((unhide HN7).below hb)
  clear hb hN
  (try go_wp2_with fail)
  refine hKk.out _ _ ?_ (fun hHeld => ?_)
  · (try dsimp only)
    exact unhide HA
  clear hKk Kk
  (try simp only [List.setIfInBounds_toArray, List.set_cons_zero, List.set_cons_succ])
  refine rdA 12 8191 (fun Kk hKk => ?_)
  go_simp
  refine (shl_int _ _ _ _ _ _ (unhide HN8) (Nat.le_trans ((unhide HN8).short (k := 2) (by rw [pw_2]; omega)) (by omega)) (by omega) (by omega)).mono ?_
  rintro _ w9 ⟨s9, rfl, hN, hb⟩
  obtain ⟨p9, n9, c9, rfl⟩ := hN.slice
  have HN9 := hide hN
  have HB := hide (bthen (unhide HB) hb)
  have HA := hide ((unhide HA).below hb)
  have HN7 := hide ((unhide HN7).below hb)
  clear hb hN
  (try go_wp2_with fail)
  refine hKk.out _ _ ?_ (fun hHeld => ?_)
  · (try dsimp only)
    exact unhide HA
  clear hKk Kk
  (try simp only [List.setIfInBounds_toArray, List.set_cons_zero, List.set_cons_succ])
  refine rdA 13 16383 (fun Kk hKk => ?_)
  go_simp
  refine (refCmp_any _ _ _ _ _ _ _ _ _ (unhide HN7) (unhide HN9)).mono ?_
  rintro _ w10 ⟨rfl, hb⟩
  have HB := hide (bthen (unhide HB) hb)
  have HA := hide ((unhide HA).below hb)
  clear hb
  (try go_wp2_with fail)
  refine hKk.out _ _ ?_ (fun hHeld => ?_)
  · (try dsimp only)
    exact unhide HA
  clear hKk Kk
  (try simp only [List.setIfInBounds_toArray, List.set_cons_zero, List.set_cons_succ])
  refine tkA 14 50 32767 ?_
  refine tkA 15 8 65535 ?_
  refine wpAnyH_done (by kernel_rfl) ?_ _
  go_wp2
  go_ret
  exact ⟨rfl, unhide HB⟩
set_option maxHeartbeats 4000000 in
set_option maxRecDepth 100000 in
theorem refMake_t {w k x c a V : Int} {m : Bool} (W : World) (HC : Ct 22 #[.int .i64 k, .int .u64 x] (.int .u64 c)) (HS : Ct 23 #[.int .i64 k, .int .u64 x] (.tuple #[.bool m, .int .u64 a])) (a0 : 0 ≤ a) (a1 : a < 18446744073709551616) (HX : Hid (∀ (p : Option Addr) (np cp : Nat) (W : World), IsNat W (.slice p np cp) (a : Int).toNat → Calls Tryd.prog 24 #[.int .i64 w, .bool m, .agg #[.slice p np cp], .int .i64 0] W fun r W' => r = .returned (.int .u64 V) ∧ Below W.heap.size W W')) :
    Calls Tryd.prog 10 #[.int .i64 w, .int .i64 k, .int .u64 x, .bool true] W fun r W' => r = .returned (.int .u64 V) ∧ Below W.heap.size W W' := by
  have hz : IntKind.i64.wrap 0 = 0 := by decide
  have HB := hide (Below.refl W.heap.size W)
  go_enter Tryd.func10, Tryd.ntmps10
  go_wp2_with fail
  refine (unhide HC _).mono ?_
  rintro _ w1 ⟨rfl, hb⟩
  have HB := hide (bthen (unhide HB) hb)
  clear hb
  go_wp2_with fail
  refine (unhide HS _).mono ?_
  rintro _ w2 ⟨rfl, hb⟩
  have HB := hide (bthen (unhide HB) hb)
  clear hb
  go_wp2_with fail
  refine (refOf_any a _ (a0 : 0 ≤ a) (a1 : a < 18446744073709551616)).mono ?_
  rintro _ w3 ⟨s3, rfl, hN, hb⟩
  obtain ⟨p3, n3, c3, rfl⟩ := hN.slice
  have HN3 := hide hN
  have HB := hide (bthen (unhide HB) hb)
  clear hb hN
  go_wp2_with fail
  refine (unhide HX _ _ _ _ (unhide HN3)).mono ?_
  rintro _ w4 ⟨rfl, hb⟩
  have HB := hide (bthen (unhide HB) hb)
  clear hb HN3
  go_wp2_with fail
  go_ret
  exact ⟨rfl, unhide HB⟩
set_option maxHeartbeats 4000000 in
set_option maxRecDepth 100000 in
theorem refExact_tz {w k x c a V K E S : Int} {n m : Bool} (W : World) (HC : Ct 22 #[.int .i64 k, .int .u64 x] (.int .u64 c)) (HS : Ct 23 #[.int .i64 k, .int .u64 x] (.tuple #[.bool m, .int .u64 a])) (a0 : 0 ≤ a) (a1 : a < 18446744073709551616) (HX : Hid (∀ (p : Option Addr) (np cp : Nat) (W : World), IsNat W (.slice p np cp) (a : Int).toNat → Calls Tryd.prog 24 #[.int .i64 w, .bool false, .agg #[.slice p np cp], .int .i64 0] W fun r W' => r = .returned (.int .u64 V) ∧ Below W.heap.size W W')) (HO : Ct 26 #[.int .i64 w, .int .u64 V] (.agg #[.bool n, .int .i64 K, .int .i64 E, .int .u64 S])) (g : (K == 0) = true) :
    Calls Tryd.prog 11 #[.int .i64 w, .int .i64 k, .int .u64 x, .bool true] W fun r W' => r = .returned (.bool (a == 0)) ∧ Below W.heap.size W W' := by
  have hz : IntKind.i64.wrap 0 = 0 := by decide
  have HB := hide (Below.refl W.heap.size W)
  go_enter Tryd.func11, Tryd.ntmps11
  go_wp2_with fail
  refine (unhide HC _).mono ?_
  rintro _ w1 ⟨rfl, hb⟩
  have HB := hide (bthen (unhide HB) hb)
  clear hb
  go_wp2_with fail
  refine (unhide HS _).mono ?_
  rintro _ w2 ⟨rfl, hb⟩
  have HB := hide (bthen (unhide HB) hb)
  clear hb
  go_wp2_with fail
  refine (refOf_any a _ (a0 : 0 ≤ a) (a1 : a < 18446744073709551616)).mono ?_
  rintro _ w3 ⟨s3, rfl, hN, hb⟩
  obtain ⟨p3, n3, c3, rfl⟩ := hN.slice
  have HN3 := hide hN
  have HB := hide (bthen (unhide HB) hb)
  clear hb hN
  go_wp2_with fail
  refine (unhide HX _ _ _ _ (unhide HN3)).mono ?_
  rintro _ w4 ⟨rfl, hb⟩
  have HB := hide (bthen (unhide HB) hb)
  clear hb HN3
  go_wp2_with fail
  refine (unhide HO _).mono ?_
  rintro _ w5 ⟨rfl, hb⟩
  have HB := hide (balloc (bthen (unhide HB) hb) (.cells #[.bool n, .int .i64 K, .int .i64 E, .int .u64 S] 47))
  have HA := hide (at4_new w5 (.bool n) (.int .i64 K) (.int .i64 E) (.int .u64 S) 47)
  clear hb
  go_wp2_with fail
  go_ret
  exact ⟨rfl, unhide HB⟩
set_option maxHeartbeats 4000000 in
set_option maxRecDepth 100000 in
theorem refExact_tn {w k x c a V K E S : Int} {n m : Bool} (W : World) (HC : Ct 22 #[.int .i64 k, .int .u64 x] (.int .u64 c)) (HS : Ct 23 #[.int .i64 k, .int .u64 x] (.tuple #[.bool m, .int .u64 a])) (a0 : 0 ≤ a) (a1 : a < 18446744073709551616) (HX : Hid (∀ (p : Option Addr) (np cp : Nat) (W : World), IsNat W (.slice p np cp) (a : Int).toNat → Calls Tryd.prog 24 #[.int .i64 w, .bool false, .agg #[.slice p np cp], .int .i64 0] W fun r W' => r = .returned (.int .u64 V) ∧ Below W.heap.size W W')) (HO : Ct 26 #[.int .i64 w, .int .u64 V] (.agg #[.bool n, .int .i64 K, .int .i64 E, .int .u64 S])) (g : (K == 0) = false) (s0 : 0 ≤ S) (s1 : S < 18446744073709551616) (gE : ¬ 0 < E) (e0 : -10000 ≤ E) (h1 : IntKind.i64.wrap (-E) = -E) :
    Calls Tryd.prog 11 #[.int .i64 w, .int .i64 k, .int .u64 x, .bool true] W fun r W' => r = .returned (.bool (cmpN S.toNat (a.toNat * 2 ^ (-E).toNat) == 0)) ∧ Below W.heap.size W W' := by
  have hz : IntKind.i64.wrap 0 = 0 := by decide
  have HB := hide (Below.refl W.heap.size W)
  go_enter Tryd.func11, Tryd.ntmps11
  go_wp2_with fail
  refine (unhide HC _).mono ?_
  rintro _ w1 ⟨rfl, hb⟩
  have HB := hide (bthen (unhide HB) hb)
  clear hb
  go_wp2_with fail
  refine (unhide HS _).mono ?_
  rintro _ w2 ⟨rfl, hb⟩
  have HB := hide (bthen (unhide HB) hb)
  clear hb
  go_wp2_with fail
  refine (refOf_any a _ (a0 : 0 ≤ a) (a1 : a < 18446744073709551616)).mono ?_
  rintro _ w3 ⟨s3, rfl, hN, hb⟩
  obtain ⟨p3, n3, c3, rfl⟩ := hN.slice
  have HN3 := hide hN
  have HB := hide (bthen (unhide HB) hb)
  clear hb hN
  go_wp2_with fail
  refine (unhide HX _ _ _ _ (unhide HN3)).mono ?_
  rintro _ w4 ⟨rfl, hb⟩
  have HB := hide (bthen (unhide HB) hb)
  clear hb HN3
  go_wp2_with fail
  refine (unhide HO _).mono ?_
  rintro _ w5 ⟨rfl, hb⟩
  have HB := hide (balloc (bthen (unhide HB) hb) (.cells #[.bool n, .int .i64 K, .int .i64 E, .int .u64 S] 47))
  have HA := hide (at4_new w5 (.bool n) (.int .i64 K) (.int .i64 E) (.int .u64 S) 47)
  clear hb
  go_wp2_with fail
  have HB := hide ((unhide HB).drew)
  have HA := hide ((unhide HA).below ((Below.refl _ _).drew))
  refine wp_region_held_drew (S := fun w' => w'.cell? ⟨w5.heap.size, 0, none⟩ = some (.bool n) ∧ w'.cell? ⟨w5.heap.size, 1, none⟩ = some (.int .i64 K) ∧ w'.cell? ⟨w5.heap.size, 2, none⟩ = some (.int .i64 E) ∧ w'.cell? ⟨w5.heap.size, 3, none⟩ = some (.int .u64 S)) (by kernel_rfl) ?_ (fun hHeld => ?_)
  · (try dsimp only)
    exact unhide HA
  refine lst0 16 (by kernel_rfl) ?_
  refine tkA 0 36 1 ?_
  refine tkA 1 37 3 ?_
  refine tkA 3 39 11 ?_
  refine tkA 4 40 27 ?_
  refine tkA 5 41 59 ?_
  refine tkA 6 42 123 ?_
  refine tkA 8 44 379 ?_
  refine tkA 10 46 1403 ?_
  refine tkA 11 47 3451 ?_
  refine rdA 2 3455 (fun Kk hKk => ?_)
  go_simp
  refine (refOf_any S _ (by assumption) (by assumption)).mono ?_
  rintro _ w6 ⟨s6, rfl, hN, hb⟩
  obtain ⟨p6, n6, c6, rfl⟩ := hN.slice
  have HN6 := hide hN
  have HB := hide (bthen (unhide HB) hb)
  have HA := hide ((unhide HA).below hb)
  clear hb hN
  (try go_wp2_with fail)
  refine hKk.out _ _ ?_ (fun hHeld => ?_)
  · (try dsimp only)
    exact unhide HA
  clear hKk Kk
  (try simp only [List.setIfInBounds_toArray, List.set_cons_zero, List.set_cons_succ])
  refine rdA 7 3583 (fun Kk hKk => ?_)
  go_simp
  refine (shl_int _ _ _ _ _ _ (unhide HN6) (Nat.le_trans ((unhide HN6).short (k := 2) (by rw [pw_2]; omega)) (by omega)) (by omega) (by omega)).mono ?_
  rintro _ w7 ⟨s7, rfl, hN, hb⟩
  obtain ⟨p7, n7, c7, rfl⟩ := hN.slice
  have HN7 := hide hN
  have HB := hide (bthen (unhide HB) hb)
  have HA := hide ((unhide HA).below hb)
  clear hb hN
  (try go_wp2_with fail)
  refine hKk.out _ _ ?_ (fun hHeld => ?_)
  · (try dsimp only)
    exact unhide HA
  clear hKk Kk
  (try simp only [List.setIfInBounds_toArray, List.set_cons_zero, List.set_cons_succ])
  refine rdA 9 4095 (fun Kk hKk => ?_)
  go_simp
  refine (refOf_any a _ (by assumption) (by assumption)).mono ?_
  rintro _ w8 ⟨s8, rfl, hN, hb⟩
  obtain ⟨p8, n8, c8, rfl⟩ := hN.slice
  have HN8 := hide hN
  have HB := hide (bthen (unhide HB) hb)
  have HA := hide ((unhide HA).below hb)
  have HN7 := hide ((unhide HN7).below hb)
  clear hb hN
  (try go_wp2_with fail)
  refine hKk.out _ _ ?_ (fun hHeld => ?_)
  · (try dsimp only)
    exact unhide HA
  clear hKk Kk
  (try simp only [List.setIfInBounds_toArray, List.set_cons_zero, List.set_cons_succ])
  refine rdA 12 8191 (fun Kk hKk => ?_)
  go_simp
  refine (shl_int _ _ _ _ _ _ (unhide HN8) (Nat.le_trans ((unhide HN8).short (k := 2) (by rw [pw_2]; omega)) (by omega)) (by omega) (by omega)).mono ?_
  rintro _ w9 ⟨s9, rfl, hN, hb⟩
  obtain ⟨p9, n9, c9, rfl⟩ := hN.slice
  have HN9 := hide hN
  have HB := hide (bthen (unhide HB) hb)
  have HA := hide ((unhide HA).below hb)
  have HN7 := hide ((unhide HN7).below hb)
  clear hb hN
  (try go_wp2_with fail)
  refine hKk.out _ _ ?_ (fun hHeld => ?_)
  · (try dsimp only)
    exact unhide HA
  clear hKk Kk
  (try simp only [List.setIfInBounds_toArray, List.set_cons_zero, List.set_cons_succ])
  refine rdA 13 16383 (fun Kk hKk => ?_)
  go_simp
  refine (refCmp_any _ _ _ _ _ _ _ _ _ (unhide HN7) (unhide HN9)).mono ?_
  rintro _ w10 ⟨rfl, hb⟩
  have HB := hide (bthen (unhide HB) hb)
  have HA := hide ((unhide HA).below hb)
  clear hb
  (try go_wp2_with fail)
  refine hKk.out _ _ ?_ (fun hHeld => ?_)
  · (try dsimp only)
    exact unhide HA
  clear hKk Kk
  (try simp only [List.setIfInBounds_toArray, List.set_cons_zero, List.set_cons_succ])
  refine tkA 14 50 32767 ?_
  refine tkA 15 8 65535 ?_
  refine wpAnyH_done (by kernel_rfl) ?_ _
  go_wp2
  go_ret
  exact ⟨rfl, unhide HB⟩
set_option maxHeartbeats 4000000 in
set_option maxRecDepth 100000 in
theorem refExact_tp {w k x c a V K E S : Int} {n m : Bool} (W : World) (HC : Ct 22 #[.int .i64 k, .int .u64 x] (.int .u64 c)) (HS : Ct 23 #[.int .i64 k, .int .u64 x] (.tuple #[.bool m, .int .u64 a])) (a0 : 0 ≤ a) (a1 : a < 18446744073709551616) (HX : Hid (∀ (p : Option Addr) (np cp : Nat) (W : World), IsNat W (.slice p np cp) (a : Int).toNat → Calls Tryd.prog 24 #[.int .i64 w, .bool false, .agg #[.slice p np cp], .int .i64 0] W fun r W' => r = .returned (.int .u64 V) ∧ Below W.heap.size W W')) (HO : Ct 26 #[.int .i64 w, .int .u64 V] (.agg #[.bool n, .int .i64 K, .int .i64 E, .int .u64 S])) (g : (K == 0) = false) (s0 : 0 ≤ S) (s1 : S < 18446744073709551616) (gE : 0 < E) (e1 : E ≤ 10000) (h1 : IntKind.i64.wrap E = E) :
    Calls Tryd.prog 11 #[.int .i64 w, .int .i64 k, .int .u64 x, .bool true] W fun r W' => r = .returned (.bool (cmpN (S.toNat * 2 ^ E.toNat) a.toNat == 0)) ∧ Below W.heap.size W W' := by
  have hz : IntKind.i64.wrap 0 = 0 := by decide
  have HB := hide (Below.refl W.heap.size W)
  go_enter Tryd.func11, Tryd.ntmps11
  go_wp2_with fail
  refine (unhide HC _).mono ?_
  rintro _ w1 ⟨rfl, hb⟩
  have HB := hide (bthen (unhide HB) hb)
  clear hb
  go_wp2_with fail
  refine (unhide HS _).mono ?_
  rintro _ w2 ⟨rfl, hb⟩
  have HB := hide (bthen (unhide HB) hb)
  clear hb
  go_wp2_with fail
  refine (refOf_any a _ (a0 : 0 ≤ a) (a1 : a < 18446744073709551616)).mono ?_
  rintro _ w3 ⟨s3, rfl, hN, hb⟩
  obtain ⟨p3, n3, c3, rfl⟩ := hN.slice
  have HN3 := hide hN
  have HB := hide (bthen (unhide HB) hb)
  clear hb hN
  go_wp2_with fail
  refine (unhide HX _ _ _ _ (unhide HN3)).mono ?_
  rintro _ w4 ⟨rfl, hb⟩
  have HB := hide (bthen (unhide HB) hb)
  clear hb HN3
  go_wp2_with fail
  refine (unhide HO _).mono ?_
  rintro _ w5 ⟨rfl, hb⟩
  have HB := hide (balloc (bthen (unhide HB) hb) (.cells #[.bool n, .int .i64 K, .int .i64 E, .int .u64 S] 47))
  have HA := hide (at4_new w5 (.bool n) (.int .i64 K) (.int .i64 E) (.int .u64 S) 47)
  clear hb
  go_wp2_with fail
  have HB := hide ((unhide HB).drew)
  have HA := hide ((unhide HA).below ((Below.refl _ _).drew))
  refine wp_region_held_drew (S := fun w' => w'.cell? ⟨w5.heap.size, 0, none⟩ = some (.bool n) ∧ w'.cell? ⟨w5.heap.size, 1, none⟩ = some (.int .i64 K) ∧ w'.cell? ⟨w5.heap.size, 2, none⟩ = some (.int .i64 E) ∧ w'.cell? ⟨w5.heap.size, 3, none⟩ = some (.int .u64 S)) (by kernel_rfl) ?_ (fun hHeld => ?_)
  · (try dsimp only)
    exact unhide HA
  refine lst0 16 (by kernel_rfl) ?_
  refine tkA 0 36 1 ?_
  refine tkA 1 37 3 ?_
  refine tkA 3 39 11 ?_
  refine tkA 4 40 27 ?_
  refine tkA 5 41 59 ?_
  refine tkA 6 42 123 ?_
  refine tkA 8 44 379 ?_
  refine tkA 10 46 1403 ?_
  refine tkA 11 47 3451 ?_
  refine rdA 2 3455 (fun Kk hKk => ?_)
  go_simp
  refine (refOf_any S _ (by assumption) (by assumption)).mono ?_
  rintro _ w6 ⟨s6, rfl, hN, hb⟩
  obtain ⟨p6, n6, c6, rfl⟩ := hN.slice
  have HN6 := hide hN
  have HB := hide (bthen (unhide HB) hb)
  have HA := hide ((unhide HA).below hb)
  clear hb hN
  (try go_wp2_with fail)
  refine hKk.out _ _ ?_ (fun hHeld => ?_)
  · (try dsimp only)
    exact unhide HA
  clear hKk Kk
  (try simp only [List.setIfInBounds_toArray, List.set_cons_zero, List.set_cons_succ])
  refine rdA 7 3583 (fun Kk hKk => ?_)
  go_simp
  refine (shl_int _ _ _ _ _ _ (unhide HN6) (Nat.le_trans ((unhide HN6).short (k := 2) (by rw [pw_2]; omega)) (by omega)) (by omega) (by omega)).mono ?_
  rintro _ w7 ⟨s7, rfl, hN, hb⟩
  obtain ⟨p7, n7, c7, rfl⟩ := hN.slice
  have HN7 := hide hN
  have HB := hide (bthen (unhide HB) hb)
  have HA := hide ((unhide HA).below hb)
  clear hb hN
  (try go_wp2_with fail)
  refine hKk.out _ _ ?_ (fun hHeld => ?_)
  · (try dsimp only)
    exact unhide HA
  clear hKk Kk
  (try simp only [List.setIfInBounds_toArray, List.set_cons_zero, List.set_cons_succ])
  refine rdA 9 4095 (fun Kk hKk => ?_)
  go_simp
  refine (refOf_any a _ (by assumption) (by assumption)).mono ?_
  rintro _ w8 ⟨s8, rfl, hN, hb⟩
  obtain ⟨p8, n8, c8, rfl⟩ := hN.slice
  have HN8 := hide hN
  have HB := hide (bthen (unhide HB) hb)
  have HA := hide ((unhide HA).below hb)
  have HN7 := hide ((unhide HN7).below hb)
  clear hb hN
  (try go_wp2_with fail)
  refine hKk.out _ _ ?_ (fun hHeld => ?_)
  · (try dsimp only)
    exact unhide HA
  clear hKk Kk
  (try simp only [List.setIfInBounds_toArray, List.set_cons_zero, List.set_cons_succ])
  refine rdA 12 8191 (fun Kk hKk => ?_)
  go_simp
  refine (shl_int _ _ _ _ _ _ (unhide HN8) (Nat.le_trans ((unhide HN8).short (k := 2) (by rw [pw_2]; omega)) (by omega)) (by omega) (by omega)).mono ?_
  rintro _ w9 ⟨s9, rfl, hN, hb⟩
  obtain ⟨p9, n9, c9, rfl⟩ := hN.slice
  have HN9 := hide hN
  have HB := hide (bthen (unhide HB) hb)
  have HA := hide ((unhide HA).below hb)
  have HN7 := hide ((unhide HN7).below hb)
  clear hb hN
  (try go_wp2_with fail)
  refine hKk.out _ _ ?_ (fun hHeld => ?_)
  · (try dsimp only)
    exact unhide HA
  clear hKk Kk
  (try simp only [List.setIfInBounds_toArray, List.set_cons_zero, List.set_cons_succ])
  refine rdA 13 16383 (fun Kk hKk => ?_)
  go_simp
  refine (refCmp_any _ _ _ _ _ _ _ _ _ (unhide HN7) (unhide HN9)).mono ?_
  rintro _ w10 ⟨rfl, hb⟩
  have HB := hide (bthen (unhide HB) hb)
  have HA := hide ((unhide HA).below hb)
  clear hb
  (try go_wp2_with fail)
  refine hKk.out _ _ ?_ (fun hHeld => ?_)
  · (try dsimp only)
    exact unhide HA
  clear hKk Kk
  (try simp only [List.setIfInBounds_toArray, List.set_cons_zero, List.set_cons_succ])
  refine tkA 14 50 32767 ?_
  refine tkA 15 8 65535 ?_
  refine wpAnyH_done (by kernel_rfl) ?_ _
  go_wp2
  go_ret
  exact ⟨rfl, unhide HB⟩
end Go.Proofs.YtahdcbjfabccpaaDoor
