/- InM, WhC. -/
import Derived.Test.YtpbgpdmffejdgabGreatDoorS12
import Derived.Test.YtpbgpdmffejdgabGreatDoorS17
import Derived.Test.YtpbgpdmffejdgabGreatDoorS19
import Derived.Laws.MathBits
namespace Go.Proofs.YtpbgpdmffejdgabGreatDoor

theorem mod_one {k w : Nat} (h : k < w) : k % w = k := Nat.mod_eq_of_lt h
/-- How many of the lowest n bits are 1. -/
def pop : Nat → Nat → Nat
  | 0, _ => 0
  | n + 1, x => x % 2 + pop n (x / 2)
def f1 (c : Nat) : Nat := (c / 2 &&& 85) + (c &&& 85)
def f2 (c : Nat) : Nat := (c / 4 &&& 51) + (c &&& 51)
theorem t1 : (List.range 512).all (fun d => d / 2 &&& 85 == (d % 256) / 2 &&& 85) = true := by decide +kernel
theorem t2 : (List.range 1024).all (fun d => d / 4 &&& 51 == (d % 256) / 4 &&& 51) = true := by decide +kernel
theorem t3 : (List.range 256).all (fun d => f1 d < 256 && f2 (f1 d) < 256 && f2 (f1 d) / 16 + f2 (f1 d) % 16 == pop 8 d && f2 (f1 d) / 16 ≤ 4 && f2 (f1 d) % 16 ≤ 4) = true := by decide +kernel
end Go.Proofs.YtpbgpdmffejdgabGreatDoor
namespace Go.Proofs.YtpbgpdmffejdgabGreatDoor
open Go.RowKit
open Go.Proofs.YtpbgpdmffejdgabGreatDoor.W

set_option maxRecDepth 100000 in
set_option maxHeartbeats 2000000 in
theorem ceil_c {n a m o : Bool} (W : World)  :
    Calls Tryz.prog 91 #[.bool n, .agg #[.bool a, .bool m, .bool o]] W fun r W' => r = .returned (.bool (!n)) ∧ Below W.heap.size W W' := by
  go_enter Tryz.func91, Tryz.ntmps91
  go_wp2_with fail
  go_ret
  exact ⟨by first | rfl | simp, below1 W (.cells #[.bool a, .bool m, .bool o] 79)⟩
set_option maxRecDepth 100000 in
set_option maxHeartbeats 2000000 in
theorem floor_c {n a m o : Bool} (W : World)  :
    Calls Tryz.prog 92 #[.bool n, .agg #[.bool a, .bool m, .bool o]] W fun r W' => r = .returned (.bool n) ∧ Below W.heap.size W W' := by
  go_enter Tryz.func92, Tryz.ntmps92
  go_wp2_with fail
  go_ret
  exact ⟨by first | rfl | simp, below1 W (.cells #[.bool a, .bool m, .bool o] 79)⟩
set_option maxRecDepth 100000 in
set_option maxHeartbeats 2000000 in
theorem trunc_c {n a m o : Bool} (W : World)  :
    Calls Tryz.prog 93 #[.bool n, .agg #[.bool a, .bool m, .bool o]] W fun r W' => r = .returned (.bool false) ∧ Below W.heap.size W W' := by
  go_enter Tryz.func93, Tryz.ntmps93
  go_wp2_with fail
  go_ret
  exact ⟨by first | rfl | simp, below1 W (.cells #[.bool a, .bool m, .bool o] 79)⟩
set_option maxRecDepth 100000 in
set_option maxHeartbeats 2000000 in
theorem near_c0 {n m o : Bool} (W : World)  :
    Calls Tryz.prog 94 #[.bool n, .agg #[.bool false, .bool m, .bool o]] W fun r W' => r = .returned (.bool false) ∧ Below W.heap.size W W' := by
  go_enter Tryz.func94, Tryz.ntmps94
  go_wp2_with fail
  go_ret
  exact ⟨by first | rfl | simp, below1 W (.cells #[.bool false, .bool m, .bool o] 79)⟩
set_option maxRecDepth 100000 in
set_option maxHeartbeats 2000000 in
theorem near_c1 {n o : Bool} (W : World)  :
    Calls Tryz.prog 94 #[.bool n, .agg #[.bool true, .bool true, .bool o]] W fun r W' => r = .returned (.bool true) ∧ Below W.heap.size W W' := by
  go_enter Tryz.func94, Tryz.ntmps94
  go_wp2_with fail
  go_ret
  exact ⟨by first | rfl | simp, below1 W (.cells #[.bool true, .bool true, .bool o] 79)⟩
set_option maxRecDepth 100000 in
set_option maxHeartbeats 2000000 in
theorem near_c2 {n o : Bool} (W : World)  :
    Calls Tryz.prog 94 #[.bool n, .agg #[.bool true, .bool false, .bool o]] W fun r W' => r = .returned (.bool o) ∧ Below W.heap.size W W' := by
  go_enter Tryz.func94, Tryz.ntmps94
  go_wp2_with fail
  go_ret
  exact ⟨by first | rfl | simp, below1 W (.cells #[.bool true, .bool false, .bool o] 79)⟩
set_option maxRecDepth 100000 in
set_option maxHeartbeats 2000000 in
theorem next_ceil_w {w x K1 X1 S1 V : Int} {n1 : Bool} (W : World) (HO : Ct 95 #[.int .i64 w, .int .u64 x] (.agg #[.bool n1, .int .i64 K1, .int .i64 X1, .int .u64 S1])) (HK : Ct 139 #[.agg #[.bool n1, .int .i64 K1, .int .i64 X1, .int .u64 S1]] (.bool false)) (HN : Ct 110 #[.int .i64 w, .agg #[.bool n1, .int .i64 K1, .int .i64 X1, .int .u64 S1]] (.int .u64 V)) :
    Calls Tryz.prog 90 #[.int .i64 w, .int .u64 x, .func (.func 91) #[] #[]] W fun r W' => r = .returned (.int .u64 V) ∧ Below W.heap.size W W' := by
  go_enter Tryz.func90, Tryz.ntmps90
  go_wp2_with fail
  refine (unhide HO _).mono ?_
  rintro _ w1 ⟨rfl, hb⟩
  have HB := hide (balloc hb (.cells #[.bool n1, .int .i64 K1, .int .i64 X1, .int .u64 S1] 82))
  have HA := hide (at4_new w1 (.bool n1) (.int .i64 K1) (.int .i64 X1) (.int .u64 S1) 82)
  clear hb
  obtain ⟨c0, c1, c2, c3⟩ := unhide HA
  go_wp2_with fail
  clear c0 c1 c2 c3
  refine (unhide HK _).mono ?_
  rintro _ w2 ⟨rfl, hb⟩
  have HB := hide (bthen (unhide HB) hb)
  have HA := hide ((unhide HA).below hb)
  clear hb
  obtain ⟨c0, c1, c2, c3⟩ := unhide HA
  go_wp2_with fail
  clear c0 c1 c2 c3
  refine (unhide HN _).mono ?_
  rintro _ w3 ⟨rfl, hb⟩
  have HB := hide (bthen (unhide HB) hb)
  clear hb
  go_wp2_with fail
  go_ret
  exact ⟨rfl, unhide HB⟩
set_option maxRecDepth 100000 in
set_option maxHeartbeats 2000000 in
theorem next_ceil_t {w x K1 X1 S1 V n h l : Int} {n1 a m o : Bool} (W : World) (HO : Ct 95 #[.int .i64 w, .int .u64 x] (.agg #[.bool n1, .int .i64 K1, .int .i64 X1, .int .u64 S1])) (HK : Ct 139 #[.agg #[.bool n1, .int .i64 K1, .int .i64 X1, .int .u64 S1]] (.bool true)) (HS : Ct 140 #[.agg #[.bool n1, .int .i64 K1, .int .i64 X1, .int .u64 S1]] (.tuple #[.int .u64 n, .agg #[.bool a, .bool m, .bool o]])) (HF : Ct 91 #[.bool n1, .agg #[.bool a, .bool m, .bool o]] (.bool true)) (kn : IntKind.u64.wrap (n + 1) = n + 1) (HW : Ct 101 #[.int .u64 (n + 1)] (.agg #[.int .u64 h, .int .u64 l])) (HP : Ct 100 #[.int .i64 w, .bool n1, .agg #[.int .u64 h, .int .u64 l], .int .i64 0, .bool false] (.int .u64 V)) :
    Calls Tryz.prog 90 #[.int .i64 w, .int .u64 x, .func (.func 91) #[] #[]] W fun r W' => r = .returned (.int .u64 V) ∧ Below W.heap.size W W' := by
  go_enter Tryz.func90, Tryz.ntmps90
  go_wp2_with fail
  refine (unhide HO _).mono ?_
  rintro _ w1 ⟨rfl, hb⟩
  have HB := hide (balloc hb (.cells #[.bool n1, .int .i64 K1, .int .i64 X1, .int .u64 S1] 82))
  have HA := hide (at4_new w1 (.bool n1) (.int .i64 K1) (.int .i64 X1) (.int .u64 S1) 82)
  clear hb
  obtain ⟨c0, c1, c2, c3⟩ := unhide HA
  go_wp2_with fail
  clear c0 c1 c2 c3
  refine (unhide HK _).mono ?_
  rintro _ w2 ⟨rfl, hb⟩
  have HB := hide (bthen (unhide HB) hb)
  have HA := hide ((unhide HA).below hb)
  clear hb
  obtain ⟨c0, c1, c2, c3⟩ := unhide HA
  go_wp2_with fail
  clear c0 c1 c2 c3
  refine (unhide HS _).mono ?_
  rintro _ w3 ⟨rfl, hb⟩
  have HB := hide (balloc (bthen (unhide HB) hb) (.cells #[.bool a, .bool m, .bool o] 79))
  have HA := hide (((unhide HA).below hb).below (below1 _ (.cells #[.bool a, .bool m, .bool o] 79)))
  clear hb
  obtain ⟨c0, c1, c2, c3⟩ := unhide HA
  go_wp2_with fail
  clear c0 c1 c2 c3
  refine (unhide HF _).mono ?_
  rintro _ w4 ⟨rfl, hb⟩
  have HB := hide (bthen (unhide HB) hb)
  have HA := hide ((unhide HA).below hb)
  clear hb
  go_wp2_with fail
  have HB := hide (unhide HB).drew
  have HA := hide ((unhide HA).below ((Below.refl _ _).drew))
  refine wp_region_held_drew (S := fun w' => (w'.cell? ⟨w1.heap.size, 0, none⟩ = some (.bool n1) ∧ w'.cell? ⟨w1.heap.size, 1, none⟩ = some (.int .i64 K1) ∧ w'.cell? ⟨w1.heap.size, 2, none⟩ = some (.int .i64 X1) ∧ w'.cell? ⟨w1.heap.size, 3, none⟩ = some (.int .u64 S1))) (by kernel_rfl) ?_ (fun hHeld => ?_)
  · (try dsimp only)
    exact unhide HA
  refine lst0 7 (by kernel_rfl) ?_
  refine tkA 0 31 1 ?_
  refine tkA 1 32 3 ?_
  refine tkA 2 33 7 ?_
  refine tkA 3 34 15 ?_
  refine rdA 4 31 (fun Kk hKk => ?_)
  go_simp
  refine (unhide HW _).mono ?_
  rintro _ w5 ⟨rfl, hbl⟩
  have HB := hide (bthen (unhide HB) hbl)
  have HA := hide ((unhide HA).below hbl)
  clear hbl
  (try go_wp2_with fail)
  refine hKk.out _ _ ?_ (fun hHeld => ?_)
  · (try dsimp only)
    exact unhide HA
  clear hKk Kk
  (try simp only [List.setIfInBounds_toArray, List.set_cons_zero, List.set_cons_succ])
  refine rdA 5 63 (fun Kk hKk => ?_)
  go_simp
  refine (unhide HP _).mono ?_
  rintro _ w6 ⟨rfl, hbl⟩
  have HB := hide (bthen (unhide HB) hbl)
  have HA := hide ((unhide HA).below hbl)
  clear hbl
  (try go_wp2_with fail)
  refine hKk.out _ _ ?_ (fun hHeld => ?_)
  · (try dsimp only)
    exact unhide HA
  clear hKk Kk
  (try simp only [List.setIfInBounds_toArray, List.set_cons_zero, List.set_cons_succ])
  refine tkA 6 6 127 ?_
  refine wpAnyH_done (by kernel_rfl) ?_ _
  go_wp2
  go_ret
  exact ⟨rfl, unhide HB⟩
set_option maxRecDepth 100000 in
set_option maxHeartbeats 2000000 in
theorem next_ceil_f {w x K1 X1 S1 V n h l : Int} {n1 a m o : Bool} (W : World) (HO : Ct 95 #[.int .i64 w, .int .u64 x] (.agg #[.bool n1, .int .i64 K1, .int .i64 X1, .int .u64 S1])) (HK : Ct 139 #[.agg #[.bool n1, .int .i64 K1, .int .i64 X1, .int .u64 S1]] (.bool true)) (HS : Ct 140 #[.agg #[.bool n1, .int .i64 K1, .int .i64 X1, .int .u64 S1]] (.tuple #[.int .u64 n, .agg #[.bool a, .bool m, .bool o]])) (HF : Ct 91 #[.bool n1, .agg #[.bool a, .bool m, .bool o]] (.bool false)) (HW : Ct 101 #[.int .u64 n] (.agg #[.int .u64 h, .int .u64 l])) (HP : Ct 100 #[.int .i64 w, .bool n1, .agg #[.int .u64 h, .int .u64 l], .int .i64 0, .bool false] (.int .u64 V)) :
    Calls Tryz.prog 90 #[.int .i64 w, .int .u64 x, .func (.func 91) #[] #[]] W fun r W' => r = .returned (.int .u64 V) ∧ Below W.heap.size W W' := by
  go_enter Tryz.func90, Tryz.ntmps90
  go_wp2_with fail
  refine (unhide HO _).mono ?_
  rintro _ w1 ⟨rfl, hb⟩
  have HB := hide (balloc hb (.cells #[.bool n1, .int .i64 K1, .int .i64 X1, .int .u64 S1] 82))
  have HA := hide (at4_new w1 (.bool n1) (.int .i64 K1) (.int .i64 X1) (.int .u64 S1) 82)
  clear hb
  obtain ⟨c0, c1, c2, c3⟩ := unhide HA
  go_wp2_with fail
  clear c0 c1 c2 c3
  refine (unhide HK _).mono ?_
  rintro _ w2 ⟨rfl, hb⟩
  have HB := hide (bthen (unhide HB) hb)
  have HA := hide ((unhide HA).below hb)
  clear hb
  obtain ⟨c0, c1, c2, c3⟩ := unhide HA
  go_wp2_with fail
  clear c0 c1 c2 c3
  refine (unhide HS _).mono ?_
  rintro _ w3 ⟨rfl, hb⟩
  have HB := hide (balloc (bthen (unhide HB) hb) (.cells #[.bool a, .bool m, .bool o] 79))
  have HA := hide (((unhide HA).below hb).below (below1 _ (.cells #[.bool a, .bool m, .bool o] 79)))
  clear hb
  obtain ⟨c0, c1, c2, c3⟩ := unhide HA
  go_wp2_with fail
  clear c0 c1 c2 c3
  refine (unhide HF _).mono ?_
  rintro _ w4 ⟨rfl, hb⟩
  have HB := hide (bthen (unhide HB) hb)
  have HA := hide ((unhide HA).below hb)
  clear hb
  go_wp2_with fail
  have HB := hide (unhide HB).drew
  have HA := hide ((unhide HA).below ((Below.refl _ _).drew))
  refine wp_region_held_drew (S := fun w' => (w'.cell? ⟨w1.heap.size, 0, none⟩ = some (.bool n1) ∧ w'.cell? ⟨w1.heap.size, 1, none⟩ = some (.int .i64 K1) ∧ w'.cell? ⟨w1.heap.size, 2, none⟩ = some (.int .i64 X1) ∧ w'.cell? ⟨w1.heap.size, 3, none⟩ = some (.int .u64 S1))) (by kernel_rfl) ?_ (fun hHeld => ?_)
  · (try dsimp only)
    exact unhide HA
  refine lst0 7 (by kernel_rfl) ?_
  refine tkA 0 31 1 ?_
  refine tkA 1 32 3 ?_
  refine tkA 2 33 7 ?_
  refine tkA 3 34 15 ?_
  refine rdA 4 31 (fun Kk hKk => ?_)
  go_simp
  refine (unhide HW _).mono ?_
  rintro _ w5 ⟨rfl, hbl⟩
  have HB := hide (bthen (unhide HB) hbl)
  have HA := hide ((unhide HA).below hbl)
  clear hbl
  (try go_wp2_with fail)
  refine hKk.out _ _ ?_ (fun hHeld => ?_)
  · (try dsimp only)
    exact unhide HA
  clear hKk Kk
  (try simp only [List.setIfInBounds_toArray, List.set_cons_zero, List.set_cons_succ])
  refine rdA 5 63 (fun Kk hKk => ?_)
  go_simp
  refine (unhide HP _).mono ?_
  rintro _ w6 ⟨rfl, hbl⟩
  have HB := hide (bthen (unhide HB) hbl)
  have HA := hide ((unhide HA).below hbl)
  clear hbl
  (try go_wp2_with fail)
  refine hKk.out _ _ ?_ (fun hHeld => ?_)
  · (try dsimp only)
    exact unhide HA
  clear hKk Kk
  (try simp only [List.setIfInBounds_toArray, List.set_cons_zero, List.set_cons_succ])
  refine tkA 6 6 127 ?_
  refine wpAnyH_done (by kernel_rfl) ?_ _
  go_wp2
  go_ret
  exact ⟨rfl, unhide HB⟩
set_option maxRecDepth 100000 in
set_option maxHeartbeats 2000000 in
theorem next_floor_w {w x K1 X1 S1 V : Int} {n1 : Bool} (W : World) (HO : Ct 95 #[.int .i64 w, .int .u64 x] (.agg #[.bool n1, .int .i64 K1, .int .i64 X1, .int .u64 S1])) (HK : Ct 139 #[.agg #[.bool n1, .int .i64 K1, .int .i64 X1, .int .u64 S1]] (.bool false)) (HN : Ct 110 #[.int .i64 w, .agg #[.bool n1, .int .i64 K1, .int .i64 X1, .int .u64 S1]] (.int .u64 V)) :
    Calls Tryz.prog 90 #[.int .i64 w, .int .u64 x, .func (.func 92) #[] #[]] W fun r W' => r = .returned (.int .u64 V) ∧ Below W.heap.size W W' := by
  go_enter Tryz.func90, Tryz.ntmps90
  go_wp2_with fail
  refine (unhide HO _).mono ?_
  rintro _ w1 ⟨rfl, hb⟩
  have HB := hide (balloc hb (.cells #[.bool n1, .int .i64 K1, .int .i64 X1, .int .u64 S1] 82))
  have HA := hide (at4_new w1 (.bool n1) (.int .i64 K1) (.int .i64 X1) (.int .u64 S1) 82)
  clear hb
  obtain ⟨c0, c1, c2, c3⟩ := unhide HA
  go_wp2_with fail
  clear c0 c1 c2 c3
  refine (unhide HK _).mono ?_
  rintro _ w2 ⟨rfl, hb⟩
  have HB := hide (bthen (unhide HB) hb)
  have HA := hide ((unhide HA).below hb)
  clear hb
  obtain ⟨c0, c1, c2, c3⟩ := unhide HA
  go_wp2_with fail
  clear c0 c1 c2 c3
  refine (unhide HN _).mono ?_
  rintro _ w3 ⟨rfl, hb⟩
  have HB := hide (bthen (unhide HB) hb)
  clear hb
  go_wp2_with fail
  go_ret
  exact ⟨rfl, unhide HB⟩
set_option maxRecDepth 100000 in
set_option maxHeartbeats 2000000 in
theorem next_floor_t {w x K1 X1 S1 V n h l : Int} {n1 a m o : Bool} (W : World) (HO : Ct 95 #[.int .i64 w, .int .u64 x] (.agg #[.bool n1, .int .i64 K1, .int .i64 X1, .int .u64 S1])) (HK : Ct 139 #[.agg #[.bool n1, .int .i64 K1, .int .i64 X1, .int .u64 S1]] (.bool true)) (HS : Ct 140 #[.agg #[.bool n1, .int .i64 K1, .int .i64 X1, .int .u64 S1]] (.tuple #[.int .u64 n, .agg #[.bool a, .bool m, .bool o]])) (HF : Ct 92 #[.bool n1, .agg #[.bool a, .bool m, .bool o]] (.bool true)) (kn : IntKind.u64.wrap (n + 1) = n + 1) (HW : Ct 101 #[.int .u64 (n + 1)] (.agg #[.int .u64 h, .int .u64 l])) (HP : Ct 100 #[.int .i64 w, .bool n1, .agg #[.int .u64 h, .int .u64 l], .int .i64 0, .bool false] (.int .u64 V)) :
    Calls Tryz.prog 90 #[.int .i64 w, .int .u64 x, .func (.func 92) #[] #[]] W fun r W' => r = .returned (.int .u64 V) ∧ Below W.heap.size W W' := by
  go_enter Tryz.func90, Tryz.ntmps90
  go_wp2_with fail
  refine (unhide HO _).mono ?_
  rintro _ w1 ⟨rfl, hb⟩
  have HB := hide (balloc hb (.cells #[.bool n1, .int .i64 K1, .int .i64 X1, .int .u64 S1] 82))
  have HA := hide (at4_new w1 (.bool n1) (.int .i64 K1) (.int .i64 X1) (.int .u64 S1) 82)
  clear hb
  obtain ⟨c0, c1, c2, c3⟩ := unhide HA
  go_wp2_with fail
  clear c0 c1 c2 c3
  refine (unhide HK _).mono ?_
  rintro _ w2 ⟨rfl, hb⟩
  have HB := hide (bthen (unhide HB) hb)
  have HA := hide ((unhide HA).below hb)
  clear hb
  obtain ⟨c0, c1, c2, c3⟩ := unhide HA
  go_wp2_with fail
  clear c0 c1 c2 c3
  refine (unhide HS _).mono ?_
  rintro _ w3 ⟨rfl, hb⟩
  have HB := hide (balloc (bthen (unhide HB) hb) (.cells #[.bool a, .bool m, .bool o] 79))
  have HA := hide (((unhide HA).below hb).below (below1 _ (.cells #[.bool a, .bool m, .bool o] 79)))
  clear hb
  obtain ⟨c0, c1, c2, c3⟩ := unhide HA
  go_wp2_with fail
  clear c0 c1 c2 c3
  refine (unhide HF _).mono ?_
  rintro _ w4 ⟨rfl, hb⟩
  have HB := hide (bthen (unhide HB) hb)
  have HA := hide ((unhide HA).below hb)
  clear hb
  go_wp2_with fail
  have HB := hide (unhide HB).drew
  have HA := hide ((unhide HA).below ((Below.refl _ _).drew))
  refine wp_region_held_drew (S := fun w' => (w'.cell? ⟨w1.heap.size, 0, none⟩ = some (.bool n1) ∧ w'.cell? ⟨w1.heap.size, 1, none⟩ = some (.int .i64 K1) ∧ w'.cell? ⟨w1.heap.size, 2, none⟩ = some (.int .i64 X1) ∧ w'.cell? ⟨w1.heap.size, 3, none⟩ = some (.int .u64 S1))) (by kernel_rfl) ?_ (fun hHeld => ?_)
  · (try dsimp only)
    exact unhide HA
  refine lst0 7 (by kernel_rfl) ?_
  refine tkA 0 31 1 ?_
  refine tkA 1 32 3 ?_
  refine tkA 2 33 7 ?_
  refine tkA 3 34 15 ?_
  refine rdA 4 31 (fun Kk hKk => ?_)
  go_simp
  refine (unhide HW _).mono ?_
  rintro _ w5 ⟨rfl, hbl⟩
  have HB := hide (bthen (unhide HB) hbl)
  have HA := hide ((unhide HA).below hbl)
  clear hbl
  (try go_wp2_with fail)
  refine hKk.out _ _ ?_ (fun hHeld => ?_)
  · (try dsimp only)
    exact unhide HA
  clear hKk Kk
  (try simp only [List.setIfInBounds_toArray, List.set_cons_zero, List.set_cons_succ])
  refine rdA 5 63 (fun Kk hKk => ?_)
  go_simp
  refine (unhide HP _).mono ?_
  rintro _ w6 ⟨rfl, hbl⟩
  have HB := hide (bthen (unhide HB) hbl)
  have HA := hide ((unhide HA).below hbl)
  clear hbl
  (try go_wp2_with fail)
  refine hKk.out _ _ ?_ (fun hHeld => ?_)
  · (try dsimp only)
    exact unhide HA
  clear hKk Kk
  (try simp only [List.setIfInBounds_toArray, List.set_cons_zero, List.set_cons_succ])
  refine tkA 6 6 127 ?_
  refine wpAnyH_done (by kernel_rfl) ?_ _
  go_wp2
  go_ret
  exact ⟨rfl, unhide HB⟩
set_option maxRecDepth 100000 in
set_option maxHeartbeats 2000000 in
theorem next_floor_f {w x K1 X1 S1 V n h l : Int} {n1 a m o : Bool} (W : World) (HO : Ct 95 #[.int .i64 w, .int .u64 x] (.agg #[.bool n1, .int .i64 K1, .int .i64 X1, .int .u64 S1])) (HK : Ct 139 #[.agg #[.bool n1, .int .i64 K1, .int .i64 X1, .int .u64 S1]] (.bool true)) (HS : Ct 140 #[.agg #[.bool n1, .int .i64 K1, .int .i64 X1, .int .u64 S1]] (.tuple #[.int .u64 n, .agg #[.bool a, .bool m, .bool o]])) (HF : Ct 92 #[.bool n1, .agg #[.bool a, .bool m, .bool o]] (.bool false)) (HW : Ct 101 #[.int .u64 n] (.agg #[.int .u64 h, .int .u64 l])) (HP : Ct 100 #[.int .i64 w, .bool n1, .agg #[.int .u64 h, .int .u64 l], .int .i64 0, .bool false] (.int .u64 V)) :
    Calls Tryz.prog 90 #[.int .i64 w, .int .u64 x, .func (.func 92) #[] #[]] W fun r W' => r = .returned (.int .u64 V) ∧ Below W.heap.size W W' := by
  go_enter Tryz.func90, Tryz.ntmps90
  go_wp2_with fail
  refine (unhide HO _).mono ?_
  rintro _ w1 ⟨rfl, hb⟩
  have HB := hide (balloc hb (.cells #[.bool n1, .int .i64 K1, .int .i64 X1, .int .u64 S1] 82))
  have HA := hide (at4_new w1 (.bool n1) (.int .i64 K1) (.int .i64 X1) (.int .u64 S1) 82)
  clear hb
  obtain ⟨c0, c1, c2, c3⟩ := unhide HA
  go_wp2_with fail
  clear c0 c1 c2 c3
  refine (unhide HK _).mono ?_
  rintro _ w2 ⟨rfl, hb⟩
  have HB := hide (bthen (unhide HB) hb)
  have HA := hide ((unhide HA).below hb)
  clear hb
  obtain ⟨c0, c1, c2, c3⟩ := unhide HA
  go_wp2_with fail
  clear c0 c1 c2 c3
  refine (unhide HS _).mono ?_
  rintro _ w3 ⟨rfl, hb⟩
  have HB := hide (balloc (bthen (unhide HB) hb) (.cells #[.bool a, .bool m, .bool o] 79))
  have HA := hide (((unhide HA).below hb).below (below1 _ (.cells #[.bool a, .bool m, .bool o] 79)))
  clear hb
  obtain ⟨c0, c1, c2, c3⟩ := unhide HA
  go_wp2_with fail
  clear c0 c1 c2 c3
  refine (unhide HF _).mono ?_
  rintro _ w4 ⟨rfl, hb⟩
  have HB := hide (bthen (unhide HB) hb)
  have HA := hide ((unhide HA).below hb)
  clear hb
  go_wp2_with fail
  have HB := hide (unhide HB).drew
  have HA := hide ((unhide HA).below ((Below.refl _ _).drew))
  refine wp_region_held_drew (S := fun w' => (w'.cell? ⟨w1.heap.size, 0, none⟩ = some (.bool n1) ∧ w'.cell? ⟨w1.heap.size, 1, none⟩ = some (.int .i64 K1) ∧ w'.cell? ⟨w1.heap.size, 2, none⟩ = some (.int .i64 X1) ∧ w'.cell? ⟨w1.heap.size, 3, none⟩ = some (.int .u64 S1))) (by kernel_rfl) ?_ (fun hHeld => ?_)
  · (try dsimp only)
    exact unhide HA
  refine lst0 7 (by kernel_rfl) ?_
  refine tkA 0 31 1 ?_
  refine tkA 1 32 3 ?_
  refine tkA 2 33 7 ?_
  refine tkA 3 34 15 ?_
  refine rdA 4 31 (fun Kk hKk => ?_)
  go_simp
  refine (unhide HW _).mono ?_
  rintro _ w5 ⟨rfl, hbl⟩
  have HB := hide (bthen (unhide HB) hbl)
  have HA := hide ((unhide HA).below hbl)
  clear hbl
  (try go_wp2_with fail)
  refine hKk.out _ _ ?_ (fun hHeld => ?_)
  · (try dsimp only)
    exact unhide HA
  clear hKk Kk
  (try simp only [List.setIfInBounds_toArray, List.set_cons_zero, List.set_cons_succ])
  refine rdA 5 63 (fun Kk hKk => ?_)
  go_simp
  refine (unhide HP _).mono ?_
  rintro _ w6 ⟨rfl, hbl⟩
  have HB := hide (bthen (unhide HB) hbl)
  have HA := hide ((unhide HA).below hbl)
  clear hbl
  (try go_wp2_with fail)
  refine hKk.out _ _ ?_ (fun hHeld => ?_)
  · (try dsimp only)
    exact unhide HA
  clear hKk Kk
  (try simp only [List.setIfInBounds_toArray, List.set_cons_zero, List.set_cons_succ])
  refine tkA 6 6 127 ?_
  refine wpAnyH_done (by kernel_rfl) ?_ _
  go_wp2
  go_ret
  exact ⟨rfl, unhide HB⟩
set_option maxRecDepth 100000 in
set_option maxHeartbeats 2000000 in
theorem next_trunc_w {w x K1 X1 S1 V : Int} {n1 : Bool} (W : World) (HO : Ct 95 #[.int .i64 w, .int .u64 x] (.agg #[.bool n1, .int .i64 K1, .int .i64 X1, .int .u64 S1])) (HK : Ct 139 #[.agg #[.bool n1, .int .i64 K1, .int .i64 X1, .int .u64 S1]] (.bool false)) (HN : Ct 110 #[.int .i64 w, .agg #[.bool n1, .int .i64 K1, .int .i64 X1, .int .u64 S1]] (.int .u64 V)) :
    Calls Tryz.prog 90 #[.int .i64 w, .int .u64 x, .func (.func 93) #[] #[]] W fun r W' => r = .returned (.int .u64 V) ∧ Below W.heap.size W W' := by
  go_enter Tryz.func90, Tryz.ntmps90
  go_wp2_with fail
  refine (unhide HO _).mono ?_
  rintro _ w1 ⟨rfl, hb⟩
  have HB := hide (balloc hb (.cells #[.bool n1, .int .i64 K1, .int .i64 X1, .int .u64 S1] 82))
  have HA := hide (at4_new w1 (.bool n1) (.int .i64 K1) (.int .i64 X1) (.int .u64 S1) 82)
  clear hb
  obtain ⟨c0, c1, c2, c3⟩ := unhide HA
  go_wp2_with fail
  clear c0 c1 c2 c3
  refine (unhide HK _).mono ?_
  rintro _ w2 ⟨rfl, hb⟩
  have HB := hide (bthen (unhide HB) hb)
  have HA := hide ((unhide HA).below hb)
  clear hb
  obtain ⟨c0, c1, c2, c3⟩ := unhide HA
  go_wp2_with fail
  clear c0 c1 c2 c3
  refine (unhide HN _).mono ?_
  rintro _ w3 ⟨rfl, hb⟩
  have HB := hide (bthen (unhide HB) hb)
  clear hb
  go_wp2_with fail
  go_ret
  exact ⟨rfl, unhide HB⟩
set_option maxRecDepth 100000 in
set_option maxHeartbeats 2000000 in
theorem next_trunc_f {w x K1 X1 S1 V n h l : Int} {n1 a m o : Bool} (W : World) (HO : Ct 95 #[.int .i64 w, .int .u64 x] (.agg #[.bool n1, .int .i64 K1, .int .i64 X1, .int .u64 S1])) (HK : Ct 139 #[.agg #[.bool n1, .int .i64 K1, .int .i64 X1, .int .u64 S1]] (.bool true)) (HS : Ct 140 #[.agg #[.bool n1, .int .i64 K1, .int .i64 X1, .int .u64 S1]] (.tuple #[.int .u64 n, .agg #[.bool a, .bool m, .bool o]])) (HF : Ct 93 #[.bool n1, .agg #[.bool a, .bool m, .bool o]] (.bool false)) (HW : Ct 101 #[.int .u64 n] (.agg #[.int .u64 h, .int .u64 l])) (HP : Ct 100 #[.int .i64 w, .bool n1, .agg #[.int .u64 h, .int .u64 l], .int .i64 0, .bool false] (.int .u64 V)) :
    Calls Tryz.prog 90 #[.int .i64 w, .int .u64 x, .func (.func 93) #[] #[]] W fun r W' => r = .returned (.int .u64 V) ∧ Below W.heap.size W W' := by
  go_enter Tryz.func90, Tryz.ntmps90
  go_wp2_with fail
  refine (unhide HO _).mono ?_
  rintro _ w1 ⟨rfl, hb⟩
  have HB := hide (balloc hb (.cells #[.bool n1, .int .i64 K1, .int .i64 X1, .int .u64 S1] 82))
  have HA := hide (at4_new w1 (.bool n1) (.int .i64 K1) (.int .i64 X1) (.int .u64 S1) 82)
  clear hb
  obtain ⟨c0, c1, c2, c3⟩ := unhide HA
  go_wp2_with fail
  clear c0 c1 c2 c3
  refine (unhide HK _).mono ?_
  rintro _ w2 ⟨rfl, hb⟩
  have HB := hide (bthen (unhide HB) hb)
  have HA := hide ((unhide HA).below hb)
  clear hb
  obtain ⟨c0, c1, c2, c3⟩ := unhide HA
  go_wp2_with fail
  clear c0 c1 c2 c3
  refine (unhide HS _).mono ?_
  rintro _ w3 ⟨rfl, hb⟩
  have HB := hide (balloc (bthen (unhide HB) hb) (.cells #[.bool a, .bool m, .bool o] 79))
  have HA := hide (((unhide HA).below hb).below (below1 _ (.cells #[.bool a, .bool m, .bool o] 79)))
  clear hb
  obtain ⟨c0, c1, c2, c3⟩ := unhide HA
  go_wp2_with fail
  clear c0 c1 c2 c3
  refine (unhide HF _).mono ?_
  rintro _ w4 ⟨rfl, hb⟩
  have HB := hide (bthen (unhide HB) hb)
  have HA := hide ((unhide HA).below hb)
  clear hb
  go_wp2_with fail
  have HB := hide (unhide HB).drew
  have HA := hide ((unhide HA).below ((Below.refl _ _).drew))
  refine wp_region_held_drew (S := fun w' => (w'.cell? ⟨w1.heap.size, 0, none⟩ = some (.bool n1) ∧ w'.cell? ⟨w1.heap.size, 1, none⟩ = some (.int .i64 K1) ∧ w'.cell? ⟨w1.heap.size, 2, none⟩ = some (.int .i64 X1) ∧ w'.cell? ⟨w1.heap.size, 3, none⟩ = some (.int .u64 S1))) (by kernel_rfl) ?_ (fun hHeld => ?_)
  · (try dsimp only)
    exact unhide HA
  refine lst0 7 (by kernel_rfl) ?_
  refine tkA 0 31 1 ?_
  refine tkA 1 32 3 ?_
  refine tkA 2 33 7 ?_
  refine tkA 3 34 15 ?_
  refine rdA 4 31 (fun Kk hKk => ?_)
  go_simp
  refine (unhide HW _).mono ?_
  rintro _ w5 ⟨rfl, hbl⟩
  have HB := hide (bthen (unhide HB) hbl)
  have HA := hide ((unhide HA).below hbl)
  clear hbl
  (try go_wp2_with fail)
  refine hKk.out _ _ ?_ (fun hHeld => ?_)
  · (try dsimp only)
    exact unhide HA
  clear hKk Kk
  (try simp only [List.setIfInBounds_toArray, List.set_cons_zero, List.set_cons_succ])
  refine rdA 5 63 (fun Kk hKk => ?_)
  go_simp
  refine (unhide HP _).mono ?_
  rintro _ w6 ⟨rfl, hbl⟩
  have HB := hide (bthen (unhide HB) hbl)
  have HA := hide ((unhide HA).below hbl)
  clear hbl
  (try go_wp2_with fail)
  refine hKk.out _ _ ?_ (fun hHeld => ?_)
  · (try dsimp only)
    exact unhide HA
  clear hKk Kk
  (try simp only [List.setIfInBounds_toArray, List.set_cons_zero, List.set_cons_succ])
  refine tkA 6 6 127 ?_
  refine wpAnyH_done (by kernel_rfl) ?_ _
  go_wp2
  go_ret
  exact ⟨rfl, unhide HB⟩
set_option maxRecDepth 100000 in
set_option maxHeartbeats 2000000 in
theorem next_near_w {w x K1 X1 S1 V : Int} {n1 : Bool} (W : World) (HO : Ct 95 #[.int .i64 w, .int .u64 x] (.agg #[.bool n1, .int .i64 K1, .int .i64 X1, .int .u64 S1])) (HK : Ct 139 #[.agg #[.bool n1, .int .i64 K1, .int .i64 X1, .int .u64 S1]] (.bool false)) (HN : Ct 110 #[.int .i64 w, .agg #[.bool n1, .int .i64 K1, .int .i64 X1, .int .u64 S1]] (.int .u64 V)) :
    Calls Tryz.prog 90 #[.int .i64 w, .int .u64 x, .func (.func 94) #[] #[]] W fun r W' => r = .returned (.int .u64 V) ∧ Below W.heap.size W W' := by
  go_enter Tryz.func90, Tryz.ntmps90
  go_wp2_with fail
  refine (unhide HO _).mono ?_
  rintro _ w1 ⟨rfl, hb⟩
  have HB := hide (balloc hb (.cells #[.bool n1, .int .i64 K1, .int .i64 X1, .int .u64 S1] 82))
  have HA := hide (at4_new w1 (.bool n1) (.int .i64 K1) (.int .i64 X1) (.int .u64 S1) 82)
  clear hb
  obtain ⟨c0, c1, c2, c3⟩ := unhide HA
  go_wp2_with fail
  clear c0 c1 c2 c3
  refine (unhide HK _).mono ?_
  rintro _ w2 ⟨rfl, hb⟩
  have HB := hide (bthen (unhide HB) hb)
  have HA := hide ((unhide HA).below hb)
  clear hb
  obtain ⟨c0, c1, c2, c3⟩ := unhide HA
  go_wp2_with fail
  clear c0 c1 c2 c3
  refine (unhide HN _).mono ?_
  rintro _ w3 ⟨rfl, hb⟩
  have HB := hide (bthen (unhide HB) hb)
  clear hb
  go_wp2_with fail
  go_ret
  exact ⟨rfl, unhide HB⟩
set_option maxRecDepth 100000 in
set_option maxHeartbeats 2000000 in
theorem next_near_t {w x K1 X1 S1 V n h l : Int} {n1 a m o : Bool} (W : World) (HO : Ct 95 #[.int .i64 w, .int .u64 x] (.agg #[.bool n1, .int .i64 K1, .int .i64 X1, .int .u64 S1])) (HK : Ct 139 #[.agg #[.bool n1, .int .i64 K1, .int .i64 X1, .int .u64 S1]] (.bool true)) (HS : Ct 140 #[.agg #[.bool n1, .int .i64 K1, .int .i64 X1, .int .u64 S1]] (.tuple #[.int .u64 n, .agg #[.bool a, .bool m, .bool o]])) (HF : Ct 94 #[.bool n1, .agg #[.bool a, .bool m, .bool o]] (.bool true)) (kn : IntKind.u64.wrap (n + 1) = n + 1) (HW : Ct 101 #[.int .u64 (n + 1)] (.agg #[.int .u64 h, .int .u64 l])) (HP : Ct 100 #[.int .i64 w, .bool n1, .agg #[.int .u64 h, .int .u64 l], .int .i64 0, .bool false] (.int .u64 V)) :
    Calls Tryz.prog 90 #[.int .i64 w, .int .u64 x, .func (.func 94) #[] #[]] W fun r W' => r = .returned (.int .u64 V) ∧ Below W.heap.size W W' := by
  go_enter Tryz.func90, Tryz.ntmps90
  go_wp2_with fail
  refine (unhide HO _).mono ?_
  rintro _ w1 ⟨rfl, hb⟩
  have HB := hide (balloc hb (.cells #[.bool n1, .int .i64 K1, .int .i64 X1, .int .u64 S1] 82))
  have HA := hide (at4_new w1 (.bool n1) (.int .i64 K1) (.int .i64 X1) (.int .u64 S1) 82)
  clear hb
  obtain ⟨c0, c1, c2, c3⟩ := unhide HA
  go_wp2_with fail
  clear c0 c1 c2 c3
  refine (unhide HK _).mono ?_
  rintro _ w2 ⟨rfl, hb⟩
  have HB := hide (bthen (unhide HB) hb)
  have HA := hide ((unhide HA).below hb)
  clear hb
  obtain ⟨c0, c1, c2, c3⟩ := unhide HA
  go_wp2_with fail
  clear c0 c1 c2 c3
  refine (unhide HS _).mono ?_
  rintro _ w3 ⟨rfl, hb⟩
  have HB := hide (balloc (bthen (unhide HB) hb) (.cells #[.bool a, .bool m, .bool o] 79))
  have HA := hide (((unhide HA).below hb).below (below1 _ (.cells #[.bool a, .bool m, .bool o] 79)))
  clear hb
  obtain ⟨c0, c1, c2, c3⟩ := unhide HA
  go_wp2_with fail
  clear c0 c1 c2 c3
  refine (unhide HF _).mono ?_
  rintro _ w4 ⟨rfl, hb⟩
  have HB := hide (bthen (unhide HB) hb)
  have HA := hide ((unhide HA).below hb)
  clear hb
  go_wp2_with fail
  have HB := hide (unhide HB).drew
  have HA := hide ((unhide HA).below ((Below.refl _ _).drew))
  refine wp_region_held_drew (S := fun w' => (w'.cell? ⟨w1.heap.size, 0, none⟩ = some (.bool n1) ∧ w'.cell? ⟨w1.heap.size, 1, none⟩ = some (.int .i64 K1) ∧ w'.cell? ⟨w1.heap.size, 2, none⟩ = some (.int .i64 X1) ∧ w'.cell? ⟨w1.heap.size, 3, none⟩ = some (.int .u64 S1))) (by kernel_rfl) ?_ (fun hHeld => ?_)
  · (try dsimp only)
    exact unhide HA
  refine lst0 7 (by kernel_rfl) ?_
  refine tkA 0 31 1 ?_
  refine tkA 1 32 3 ?_
  refine tkA 2 33 7 ?_
  refine tkA 3 34 15 ?_
  refine rdA 4 31 (fun Kk hKk => ?_)
  go_simp
  refine (unhide HW _).mono ?_
  rintro _ w5 ⟨rfl, hbl⟩
  have HB := hide (bthen (unhide HB) hbl)
  have HA := hide ((unhide HA).below hbl)
  clear hbl
  (try go_wp2_with fail)
  refine hKk.out _ _ ?_ (fun hHeld => ?_)
  · (try dsimp only)
    exact unhide HA
  clear hKk Kk
  (try simp only [List.setIfInBounds_toArray, List.set_cons_zero, List.set_cons_succ])
  refine rdA 5 63 (fun Kk hKk => ?_)
  go_simp
  refine (unhide HP _).mono ?_
  rintro _ w6 ⟨rfl, hbl⟩
  have HB := hide (bthen (unhide HB) hbl)
  have HA := hide ((unhide HA).below hbl)
  clear hbl
  (try go_wp2_with fail)
  refine hKk.out _ _ ?_ (fun hHeld => ?_)
  · (try dsimp only)
    exact unhide HA
  clear hKk Kk
  (try simp only [List.setIfInBounds_toArray, List.set_cons_zero, List.set_cons_succ])
  refine tkA 6 6 127 ?_
  refine wpAnyH_done (by kernel_rfl) ?_ _
  go_wp2
  go_ret
  exact ⟨rfl, unhide HB⟩
set_option maxRecDepth 100000 in
set_option maxHeartbeats 2000000 in
theorem next_near_f {w x K1 X1 S1 V n h l : Int} {n1 a m o : Bool} (W : World) (HO : Ct 95 #[.int .i64 w, .int .u64 x] (.agg #[.bool n1, .int .i64 K1, .int .i64 X1, .int .u64 S1])) (HK : Ct 139 #[.agg #[.bool n1, .int .i64 K1, .int .i64 X1, .int .u64 S1]] (.bool true)) (HS : Ct 140 #[.agg #[.bool n1, .int .i64 K1, .int .i64 X1, .int .u64 S1]] (.tuple #[.int .u64 n, .agg #[.bool a, .bool m, .bool o]])) (HF : Ct 94 #[.bool n1, .agg #[.bool a, .bool m, .bool o]] (.bool false)) (HW : Ct 101 #[.int .u64 n] (.agg #[.int .u64 h, .int .u64 l])) (HP : Ct 100 #[.int .i64 w, .bool n1, .agg #[.int .u64 h, .int .u64 l], .int .i64 0, .bool false] (.int .u64 V)) :
    Calls Tryz.prog 90 #[.int .i64 w, .int .u64 x, .func (.func 94) #[] #[]] W fun r W' => r = .returned (.int .u64 V) ∧ Below W.heap.size W W' := by
  go_enter Tryz.func90, Tryz.ntmps90
  go_wp2_with fail
  refine (unhide HO _).mono ?_
  rintro _ w1 ⟨rfl, hb⟩
  have HB := hide (balloc hb (.cells #[.bool n1, .int .i64 K1, .int .i64 X1, .int .u64 S1] 82))
  have HA := hide (at4_new w1 (.bool n1) (.int .i64 K1) (.int .i64 X1) (.int .u64 S1) 82)
  clear hb
  obtain ⟨c0, c1, c2, c3⟩ := unhide HA
  go_wp2_with fail
  clear c0 c1 c2 c3
  refine (unhide HK _).mono ?_
  rintro _ w2 ⟨rfl, hb⟩
  have HB := hide (bthen (unhide HB) hb)
  have HA := hide ((unhide HA).below hb)
  clear hb
  obtain ⟨c0, c1, c2, c3⟩ := unhide HA
  go_wp2_with fail
  clear c0 c1 c2 c3
  refine (unhide HS _).mono ?_
  rintro _ w3 ⟨rfl, hb⟩
  have HB := hide (balloc (bthen (unhide HB) hb) (.cells #[.bool a, .bool m, .bool o] 79))
  have HA := hide (((unhide HA).below hb).below (below1 _ (.cells #[.bool a, .bool m, .bool o] 79)))
  clear hb
  obtain ⟨c0, c1, c2, c3⟩ := unhide HA
  go_wp2_with fail
  clear c0 c1 c2 c3
  refine (unhide HF _).mono ?_
  rintro _ w4 ⟨rfl, hb⟩
  have HB := hide (bthen (unhide HB) hb)
  have HA := hide ((unhide HA).below hb)
  clear hb
  go_wp2_with fail
  have HB := hide (unhide HB).drew
  have HA := hide ((unhide HA).below ((Below.refl _ _).drew))
  refine wp_region_held_drew (S := fun w' => (w'.cell? ⟨w1.heap.size, 0, none⟩ = some (.bool n1) ∧ w'.cell? ⟨w1.heap.size, 1, none⟩ = some (.int .i64 K1) ∧ w'.cell? ⟨w1.heap.size, 2, none⟩ = some (.int .i64 X1) ∧ w'.cell? ⟨w1.heap.size, 3, none⟩ = some (.int .u64 S1))) (by kernel_rfl) ?_ (fun hHeld => ?_)
  · (try dsimp only)
    exact unhide HA
  refine lst0 7 (by kernel_rfl) ?_
  refine tkA 0 31 1 ?_
  refine tkA 1 32 3 ?_
  refine tkA 2 33 7 ?_
  refine tkA 3 34 15 ?_
  refine rdA 4 31 (fun Kk hKk => ?_)
  go_simp
  refine (unhide HW _).mono ?_
  rintro _ w5 ⟨rfl, hbl⟩
  have HB := hide (bthen (unhide HB) hbl)
  have HA := hide ((unhide HA).below hbl)
  clear hbl
  (try go_wp2_with fail)
  refine hKk.out _ _ ?_ (fun hHeld => ?_)
  · (try dsimp only)
    exact unhide HA
  clear hKk Kk
  (try simp only [List.setIfInBounds_toArray, List.set_cons_zero, List.set_cons_succ])
  refine rdA 5 63 (fun Kk hKk => ?_)
  go_simp
  refine (unhide HP _).mono ?_
  rintro _ w6 ⟨rfl, hbl⟩
  have HB := hide (bthen (unhide HB) hbl)
  have HA := hide ((unhide HA).below hbl)
  clear hbl
  (try go_wp2_with fail)
  refine hKk.out _ _ ?_ (fun hHeld => ?_)
  · (try dsimp only)
    exact unhide HA
  clear hKk Kk
  (try simp only [List.setIfInBounds_toArray, List.set_cons_zero, List.set_cons_succ])
  refine tkA 6 6 127 ?_
  refine wpAnyH_done (by kernel_rfl) ?_ _
  go_wp2
  go_ret
  exact ⟨rfl, unhide HB⟩
set_option maxRecDepth 100000 in
set_option maxHeartbeats 2000000 in
theorem ceil_l {w x V : Int} (W : World) (H : Ct 90 #[.int .i64 w, .int .u64 x, .func (.func 91) #[] #[]] (.int .u64 V)) :
    Calls Tryz.prog 42 #[.int .i64 w, .int .u64 x] W fun r W' => r = .returned (.int .u64 V) ∧ Below W.heap.size W W' := by
  go_enter Tryz.func42, Tryz.ntmps42
  go_wp2_with fail
  refine (unhide H _).mono ?_
  rintro _ w1 ⟨rfl, hb⟩
  have HB := hide hb
  clear hb
  go_wp2_with fail
  go_ret
  exact ⟨rfl, unhide HB⟩
set_option maxRecDepth 100000 in
set_option maxHeartbeats 2000000 in
theorem floor_l {w x V : Int} (W : World) (H : Ct 90 #[.int .i64 w, .int .u64 x, .func (.func 92) #[] #[]] (.int .u64 V)) :
    Calls Tryz.prog 43 #[.int .i64 w, .int .u64 x] W fun r W' => r = .returned (.int .u64 V) ∧ Below W.heap.size W W' := by
  go_enter Tryz.func43, Tryz.ntmps43
  go_wp2_with fail
  refine (unhide H _).mono ?_
  rintro _ w1 ⟨rfl, hb⟩
  have HB := hide hb
  clear hb
  go_wp2_with fail
  go_ret
  exact ⟨rfl, unhide HB⟩
set_option maxRecDepth 100000 in
set_option maxHeartbeats 2000000 in
theorem trunc_l {w x V : Int} (W : World) (H : Ct 90 #[.int .i64 w, .int .u64 x, .func (.func 93) #[] #[]] (.int .u64 V)) :
    Calls Tryz.prog 44 #[.int .i64 w, .int .u64 x] W fun r W' => r = .returned (.int .u64 V) ∧ Below W.heap.size W W' := by
  go_enter Tryz.func44, Tryz.ntmps44
  go_wp2_with fail
  refine (unhide H _).mono ?_
  rintro _ w1 ⟨rfl, hb⟩
  have HB := hide hb
  clear hb
  go_wp2_with fail
  go_ret
  exact ⟨rfl, unhide HB⟩
set_option maxRecDepth 100000 in
set_option maxHeartbeats 2000000 in
theorem near_l {w x V : Int} (W : World) (H : Ct 90 #[.int .i64 w, .int .u64 x, .func (.func 94) #[] #[]] (.int .u64 V)) :
    Calls Tryz.prog 45 #[.int .i64 w, .int .u64 x] W fun r W' => r = .returned (.int .u64 V) ∧ Below W.heap.size W W' := by
  go_enter Tryz.func45, Tryz.ntmps45
  go_wp2_with fail
  refine (unhide H _).mono ?_
  rintro _ w1 ⟨rfl, hb⟩
  have HB := hide hb
  clear hb
  go_wp2_with fail
  go_ret
  exact ⟨rfl, unhide HB⟩
end Go.Proofs.YtpbgpdmffejdgabGreatDoor
