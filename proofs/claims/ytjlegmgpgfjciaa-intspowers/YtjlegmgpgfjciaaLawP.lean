/- The walk of IntsPowers. -/
import Derived.Test.YtjlegmgpgfjciaaTk
namespace Go.Proofs.Ytjlegmgpgfjciaa
open Go.RowKit

set_option maxHeartbeats 4000000 in
set_option maxRecDepth 100000 in
theorem powers_w {w a k : Int} (HA0 : Ct 8 #[] (.bool true)) (g1 : (w != 32) = true) (g2 : (w != 64) = true) : Ct 7 #[.int .i64 w, .int .u64 a, .int .i64 k] (.bool true) := by
  refine hide (fun W => ?_)
  have HB := hide (Below.refl W.heap.size W)
  go_enter Try.func7, Try.ntmps7
  go_wp2_with fail
  refine (unhide HA0 _).mono ?_
  rintro _ w1 ⟨rfl, hb⟩
  have HB := hide (bthen (unhide HB) hb)
  clear hb
  go_wp2_with fail
  go_ret
  exact ⟨rfl, unhide HB⟩
set_option maxHeartbeats 4000000 in
set_option maxRecDepth 100000 in
theorem powers_32n {a k : Int} (HA0 : Ct 8 #[] (.bool true)) (g : k < 0) : Ct 7 #[.int .i64 32, .int .u64 a, .int .i64 k] (.bool true) := by
  refine hide (fun W => ?_)
  have HB := hide (Below.refl W.heap.size W)
  go_enter Try.func7, Try.ntmps7
  go_wp2_with fail
  refine (unhide HA0 _).mono ?_
  rintro _ w1 ⟨rfl, hb⟩
  have HB := hide (bthen (unhide HB) hb)
  clear hb
  go_wp2_with fail
  go_ret
  exact ⟨rfl, unhide HB⟩
set_option maxHeartbeats 4000000 in
set_option maxRecDepth 100000 in
theorem powers_64n {a k : Int} (HA0 : Ct 8 #[] (.bool true)) (g : k < 0) : Ct 7 #[.int .i64 64, .int .u64 a, .int .i64 k] (.bool true) := by
  refine hide (fun W => ?_)
  have HB := hide (Below.refl W.heap.size W)
  go_enter Try.func7, Try.ntmps7
  go_wp2_with fail
  refine (unhide HA0 _).mono ?_
  rintro _ w1 ⟨rfl, hb⟩
  have HB := hide (bthen (unhide HB) hb)
  clear hb
  go_wp2_with fail
  go_ret
  exact ⟨rfl, unhide HB⟩
set_option maxHeartbeats 4000000 in
set_option maxRecDepth 100000 in
theorem powers_32g {a k : Int} (HA0 : Ct 8 #[] (.bool true)) (g0 : 0 ≤ k) (g : 32 ≤ k) : Ct 7 #[.int .i64 32, .int .u64 a, .int .i64 k] (.bool true) := by
  refine hide (fun W => ?_)
  have HB := hide (Below.refl W.heap.size W)
  go_enter Try.func7, Try.ntmps7
  go_wp2_with fail
  refine (unhide HA0 _).mono ?_
  rintro _ w1 ⟨rfl, hb⟩
  have HB := hide (bthen (unhide HB) hb)
  clear hb
  go_wp2_with fail
  go_ret
  exact ⟨rfl, unhide HB⟩
set_option maxHeartbeats 4000000 in
set_option maxRecDepth 100000 in
theorem powers_64g {a k : Int} (HA0 : Ct 8 #[] (.bool true)) (g0 : 0 ≤ k) (g : 64 ≤ k) : Ct 7 #[.int .i64 64, .int .u64 a, .int .i64 k] (.bool true) := by
  refine hide (fun W => ?_)
  have HB := hide (Below.refl W.heap.size W)
  go_enter Try.func7, Try.ntmps7
  go_wp2_with fail
  refine (unhide HA0 _).mono ?_
  rintro _ w1 ⟨rfl, hb⟩
  have HB := hide (bthen (unhide HB) hb)
  clear hb
  go_wp2_with fail
  go_ret
  exact ⟨rfl, unhide HB⟩
set_option maxHeartbeats 4000000 in
set_option maxRecDepth 100000 in
theorem powers_32 {a k p q r x1 p' z y y' m : Int} (HA0 : Ct 8 #[] (.bool true)) (k0 : 0 ≤ k) (k1 : k < 32) (hp : IntKind.u64.wrap (2 ^ k.toNat) = p) (hk : IntKind.u64.wrap k = k) (D1 : Ct 16 #[.int .i64 32, .int .u64 a, .int .u64 p] (.tuple #[.int .u64 q, .int .i64 0])) (D2 : Ct 17 #[.int .i64 32, .int .u64 a, .int .u64 p] (.tuple #[.int .u64 r, .int .i64 0])) (H1 : Ct 23 #[.int .i64 32, .int .u64 a, .int .u64 k] (.int .u64 x1)) (H2 : Ct 11 #[.int .i64 32, .int .u64 a, .int .u64 p] (.int .u64 x1)) (H3 : Ct 24 #[.int .i64 32, .int .u64 a, .int .u64 k] (.int .u64 q)) (H4 : Ct 26 #[.int .i64 32, .int .u64 a, .int .u64 k] (.int .u64 z)) (H5 : Ct 24 #[.int .i64 32, .int .u64 a, .int .u64 m] (.int .u64 y)) (hp' : IntKind.u64.wrap (p - 1) = p') (hr : bits .and .u64 a p' = r) (hm : IntKind.u64.wrap ((IntKind.i64.wrap (32 - k)).tmod 32) = m) (hy : bits .and .u64 y p' = y') (hz : bits .or .u64 x1 y' = z) : Ct 7 #[.int .i64 32, .int .u64 a, .int .i64 k] (.bool true) := by
  refine hide (fun W => ?_)
  have HB := hide (Below.refl W.heap.size W)
  go_enter Try.func7, Try.ntmps7
  go_wp2_with fail
  refine (unhide HA0 _).mono ?_
  rintro _ w1 ⟨rfl, hb⟩
  have HB := hide (bthen (unhide HB) hb)
  clear hb
  go_wp2_with fail
  refine (unhide D1 _).mono ?_
  rintro _ w2 ⟨rfl, hb⟩
  have HB := hide (bthen (unhide HB) hb)
  clear hb
  go_wp2_with fail
  refine (unhide D2 _).mono ?_
  rintro _ w3 ⟨rfl, hb⟩
  have HB := hide (bthen (unhide HB) hb)
  clear hb
  go_wp2_with fail
  have HB := hide ((unhide HB).drew)
  refine wp_region_held_drew (S := Free) (by kernel_rfl) ?_ (fun hHeld => ?_)
  · (try dsimp only)
    exact free _
  refine lst0 63 (by kernel_rfl) ?_
  refine tkA 0 45 1 ?_
  refine tkA 1 46 3 ?_
  refine tkA 2 47 7 ?_
  refine tkA 3 48 15 ?_
  refine tkA 5 50 47 ?_
  refine tkA 6 51 111 ?_
  refine tkA 7 52 239 ?_
  refine rdA 4 255 (fun Kk hKk => ?_)
  go_simp
  refine (unhide H1 _).mono ?_
  rintro _ w4 ⟨rfl, hb⟩
  have HB := hide (bthen (unhide HB) hb)
  clear hb
  (try go_wp2_with fail)
  refine hKk.out _ _ ?_ (fun hHeld => ?_)
  · (try dsimp only)
    exact free _
  clear hKk Kk
  (try simp only [List.setIfInBounds_toArray, List.set_cons_zero, List.set_cons_succ])
  refine rdA 8 511 (fun Kk hKk => ?_)
  go_simp
  refine (unhide H2 _).mono ?_
  rintro _ w5 ⟨rfl, hb⟩
  have HB := hide (bthen (unhide HB) hb)
  clear hb
  (try go_wp2_with fail)
  refine hKk.out _ _ ?_ (fun hHeld => ?_)
  · (try dsimp only)
    exact free _
  clear hKk Kk
  (try simp only [List.setIfInBounds_toArray, List.set_cons_zero, List.set_cons_succ])
  refine tkA 9 54 1023 ?_
  refine tkA 10 55 2047 ?_
  refine tkA 11 56 4095 ?_
  refine tkA 12 57 8191 ?_
  refine tkA 13 58 16383 ?_
  refine tkA 14 59 32767 ?_
  refine tkA 15 60 65535 ?_
  refine tkA 16 61 131071 ?_
  refine tkA 17 62 262143 ?_
  refine tkA 18 63 524287 ?_
  refine tkA 20 65 1572863 ?_
  refine rdA 19 2097151 (fun Kk hKk => ?_)
  go_simp
  refine (unhide H3 _).mono ?_
  rintro _ w6 ⟨rfl, hb⟩
  have HB := hide (bthen (unhide HB) hb)
  clear hb
  (try go_wp2_with fail)
  refine hKk.out _ _ ?_ (fun hHeld => ?_)
  · (try dsimp only)
    exact free _
  clear hKk Kk
  (try simp only [List.setIfInBounds_toArray, List.set_cons_zero, List.set_cons_succ])
  refine tkA 21 66 4194303 ?_
  refine tkA 22 67 8388607 ?_
  refine tkA 23 68 16777215 ?_
  refine tkA 24 69 33554431 ?_
  refine tkA 25 70 67108863 ?_
  refine tkA 26 71 134217727 ?_
  refine tkA 27 72 268435455 ?_
  refine tkA 28 73 536870911 ?_
  refine tkA 29 74 1073741823 ?_
  refine tkA 30 75 2147483647 ?_
  refine tkA 31 76 4294967295 ?_
  refine tkA 32 77 8589934591 ?_
  refine tkA 33 78 17179869183 ?_
  refine tkA 34 79 34359738367 ?_
  refine tkA 35 80 68719476735 ?_
  refine tkA 36 81 137438953471 ?_
  refine tkA 37 82 274877906943 ?_
  refine tkA 38 83 549755813887 ?_
  refine tkA 39 84 1099511627775 ?_
  refine tkA 40 85 2199023255551 ?_
  refine tkA 42 87 6597069766655 ?_
  refine tkA 43 88 15393162788863 ?_
  refine tkA 44 89 32985348833279 ?_
  refine tkA 45 90 68169720922111 ?_
  refine tkA 47 92 208907209277439 ?_
  refine tkA 48 93 490382185988095 ?_
  refine tkA 49 94 1053332139409407 ?_
  refine tkA 50 95 2179232046252031 ?_
  refine tkA 51 96 4431031859937279 ?_
  refine tkA 52 97 8934631487307775 ?_
  refine tkA 53 98 17941830742048767 ?_
  refine tkA 54 99 35956229251530751 ?_
  refine tkA 56 101 108013823289458687 ?_
  refine tkA 57 102 252129011365314559 ?_
  refine rdA 41 252131210388570111 (fun Kk hKk => ?_)
  go_simp
  refine (unhide H4 _).mono ?_
  rintro _ w7 ⟨rfl, hb⟩
  have HB := hide (bthen (unhide HB) hb)
  clear hb
  (try go_wp2_with fail)
  refine hKk.out _ _ ?_ (fun hHeld => ?_)
  · (try dsimp only)
    exact free _
  clear hKk Kk
  (try simp only [List.setIfInBounds_toArray, List.set_cons_zero, List.set_cons_succ])
  refine rdA 46 252201579132747775 (fun Kk hKk => ?_)
  go_simp
  refine (unhide H1 _).mono ?_
  rintro _ w8 ⟨rfl, hb⟩
  have HB := hide (bthen (unhide HB) hb)
  clear hb
  (try go_wp2_with fail)
  refine hKk.out _ _ ?_ (fun hHeld => ?_)
  · (try dsimp only)
    exact free _
  clear hKk Kk
  (try simp only [List.setIfInBounds_toArray, List.set_cons_zero, List.set_cons_succ])
  refine rdA 55 288230376151711743 (fun Kk hKk => ?_)
  go_simp
  refine (unhide H5 _).mono ?_
  rintro _ w9 ⟨rfl, hb⟩
  have HB := hide (bthen (unhide HB) hb)
  clear hb
  (try go_wp2_with fail)
  refine hKk.out _ _ ?_ (fun hHeld => ?_)
  · (try dsimp only)
    exact free _
  clear hKk Kk
  (try simp only [List.setIfInBounds_toArray, List.set_cons_zero, List.set_cons_succ])
  refine tkA 58 103 576460752303423487 ?_
  refine tkA 59 104 1152921504606846975 ?_
  refine tkA 60 105 2305843009213693951 ?_
  refine tkA 61 106 4611686018427387903 ?_
  refine tkA 62 6 9223372036854775807 ?_
  refine wpAnyH_done (by kernel_rfl) ?_ _
  clear hHeld
  go_wp2_with fail
  go_ret
  exact ⟨by simp, unhide HB⟩
end Go.Proofs.Ytjlegmgpgfjciaa
