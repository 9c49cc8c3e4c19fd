/- Walks of package ints: what the package exports. -/
import Derived.Test.YtjlegmgpgfjciaaTk
namespace Go.Proofs.Ytjlegmgpgfjciaa
open Go.RowKit

def At3 (b : Nat) (x y z : Value) (w : World) : Prop := w.cell? ⟨b, 0, none⟩ = some x ∧ w.cell? ⟨b, 1, none⟩ = some y ∧ w.cell? ⟨b, 2, none⟩ = some z
theorem At3.below {b : Nat} {x y z : Value} {w w' : World} (h : At3 b x y z w) (hb : Below w.heap.size w w') : At3 b x y z w' :=
  have hz := lt_of_cell h.1
  ⟨keep1 hb hz h.1, keep1 hb hz h.2.1, keep1 hb hz h.2.2⟩
theorem at3_new (w : World) (x y z : Value) (t : TypeId) : At3 w.heap.size x y z (w.alloc (.cells #[x, y, z] t)) := by unfold At3; simp [go_sem]

set_option maxHeartbeats 4000000 in
set_option maxRecDepth 100000 in
theorem add_m {w a b v : Int} (HR : Ct 32 #[.int .i64 w, .int .u64 a, .int .u64 b, .func (.func 33) #[] #[], .func (.func 34) #[] #[]] (.int .u64 v)) : Ct 9 #[.int .i64 w, .int .u64 a, .int .u64 b] (.int .u64 v) := by
  refine hide (fun W => ?_)
  have HB := hide (Below.refl W.heap.size W)
  go_enter Try.func9, Try.ntmps9
  go_wp2_with fail
  refine (unhide HR _).mono ?_
  rintro _ w1 ⟨rfl, hb⟩
  have HB := hide (bthen (unhide HB) hb)
  clear hb
  go_wp2_with fail
  go_ret
  exact ⟨rfl, unhide HB⟩
set_option maxHeartbeats 4000000 in
set_option maxRecDepth 100000 in
theorem sub_m {w a b v : Int} (HR : Ct 32 #[.int .i64 w, .int .u64 a, .int .u64 b, .func (.func 35) #[] #[], .func (.func 36) #[] #[]] (.int .u64 v)) : Ct 10 #[.int .i64 w, .int .u64 a, .int .u64 b] (.int .u64 v) := by
  refine hide (fun W => ?_)
  have HB := hide (Below.refl W.heap.size W)
  go_enter Try.func10, Try.ntmps10
  go_wp2_with fail
  refine (unhide HR _).mono ?_
  rintro _ w1 ⟨rfl, hb⟩
  have HB := hide (bthen (unhide HB) hb)
  clear hb
  go_wp2_with fail
  go_ret
  exact ⟨rfl, unhide HB⟩
set_option maxHeartbeats 4000000 in
set_option maxRecDepth 100000 in
theorem mul_m {w a b v : Int} (HR : Ct 32 #[.int .i64 w, .int .u64 a, .int .u64 b, .func (.func 37) #[] #[], .func (.func 38) #[] #[]] (.int .u64 v)) : Ct 11 #[.int .i64 w, .int .u64 a, .int .u64 b] (.int .u64 v) := by
  refine hide (fun W => ?_)
  have HB := hide (Below.refl W.heap.size W)
  go_enter Try.func11, Try.ntmps11
  go_wp2_with fail
  refine (unhide HR _).mono ?_
  rintro _ w1 ⟨rfl, hb⟩
  have HB := hide (bthen (unhide HB) hb)
  clear hb
  go_wp2_with fail
  go_ret
  exact ⟨rfl, unhide HB⟩
set_option maxHeartbeats 4000000 in
set_option maxRecDepth 100000 in
theorem ltu_m {w a b : Int} {v : Bool} (HR : Ct 63 #[.int .i64 w, .int .u64 a, .int .u64 b, .func (.func 64) #[] #[], .func (.func 65) #[] #[]] (.bool v)) : Ct 30 #[.int .i64 w, .int .u64 a, .int .u64 b] (.bool v) := by
  refine hide (fun W => ?_)
  have HB := hide (Below.refl W.heap.size W)
  go_enter Try.func30, Try.ntmps30
  go_wp2_with fail
  refine (unhide HR _).mono ?_
  rintro _ w1 ⟨rfl, hb⟩
  have HB := hide (bthen (unhide HB) hb)
  clear hb
  go_wp2_with fail
  go_ret
  exact ⟨rfl, unhide HB⟩
set_option maxHeartbeats 4000000 in
set_option maxRecDepth 100000 in
theorem shl_m {w a b n v : Int} (HS : Ct 53 #[.int .i64 w, .int .u64 b] (.int .u64 n)) (HR : Ct 32 #[.int .i64 w, .int .u64 a, .int .u64 n, .func (.func 54) #[] #[], .func (.func 55) #[] #[]] (.int .u64 v)) : Ct 23 #[.int .i64 w, .int .u64 a, .int .u64 b] (.int .u64 v) := by
  refine hide (fun W => ?_)
  have HB := hide (Below.refl W.heap.size W)
  go_enter Try.func23, Try.ntmps23
  go_wp2_with fail
  refine (unhide HS _).mono ?_
  rintro _ w1 ⟨rfl, hb⟩
  have HB := hide (bthen (unhide HB) hb)
  clear hb
  go_wp2_with fail
  refine (unhide HR _).mono ?_
  rintro _ w2 ⟨rfl, hb⟩
  have HB := hide (bthen (unhide HB) hb)
  clear hb
  go_wp2_with fail
  go_ret
  exact ⟨rfl, unhide HB⟩
set_option maxHeartbeats 4000000 in
set_option maxRecDepth 100000 in
theorem shr_m {w a b n v : Int} (HS : Ct 53 #[.int .i64 w, .int .u64 b] (.int .u64 n)) (HR : Ct 32 #[.int .i64 w, .int .u64 a, .int .u64 n, .func (.func 56) #[] #[], .func (.func 57) #[] #[]] (.int .u64 v)) : Ct 24 #[.int .i64 w, .int .u64 a, .int .u64 b] (.int .u64 v) := by
  refine hide (fun W => ?_)
  have HB := hide (Below.refl W.heap.size W)
  go_enter Try.func24, Try.ntmps24
  go_wp2_with fail
  refine (unhide HS _).mono ?_
  rintro _ w1 ⟨rfl, hb⟩
  have HB := hide (bthen (unhide HB) hb)
  clear hb
  go_wp2_with fail
  refine (unhide HR _).mono ?_
  rintro _ w2 ⟨rfl, hb⟩
  have HB := hide (bthen (unhide HB) hb)
  clear hb
  go_wp2_with fail
  go_ret
  exact ⟨rfl, unhide HB⟩
set_option maxHeartbeats 4000000 in
set_option maxRecDepth 100000 in
theorem sar_m {w a b n v z : Int} (HS : Ct 53 #[.int .i64 w, .int .u64 b] (.int .u64 n)) (HR : Ct 58 #[.int .i64 w, .int .u64 a, .int .u64 n, .func (.func 59) #[] #[], .func (.func 60) #[] #[]] (.int .u64 v)) (HC : Ct 48 #[.int .i64 w, .int .u64 v] (.int .u64 z)) : Ct 25 #[.int .i64 w, .int .u64 a, .int .u64 b] (.int .u64 z) := by
  refine hide (fun W => ?_)
  have HB := hide (Below.refl W.heap.size W)
  go_enter Try.func25, Try.ntmps25
  go_wp2_with fail
  refine (unhide HS _).mono ?_
  rintro _ w1 ⟨rfl, hb⟩
  have HB := hide (bthen (unhide HB) hb)
  clear hb
  go_wp2_with fail
  refine (unhide HR _).mono ?_
  rintro _ w2 ⟨rfl, hb⟩
  have HB := hide (bthen (unhide HB) hb)
  clear hb
  go_wp2_with fail
  refine (unhide HC _).mono ?_
  rintro _ w3 ⟨rfl, hb⟩
  have HB := hide (bthen (unhide HB) hb)
  clear hb
  go_wp2_with fail
  go_ret
  exact ⟨rfl, unhide HB⟩
set_option maxHeartbeats 4000000 in
set_option maxRecDepth 100000 in
theorem rotl_m {w a b m x y z : Int} (HL : Ct 23 #[.int .i64 w, .int .u64 a, .int .u64 b] (.int .u64 x)) (hm : IntKind.u64.wrap (-b) = m) (HR : Ct 24 #[.int .i64 w, .int .u64 a, .int .u64 m] (.int .u64 y)) (hz : bits .or .u64 x y = z) : Ct 26 #[.int .i64 w, .int .u64 a, .int .u64 b] (.int .u64 z) := by
  refine hide (fun W => ?_)
  have HB := hide (Below.refl W.heap.size W)
  go_enter Try.func26, Try.ntmps26
  go_wp2_with fail
  refine (unhide HL _).mono ?_
  rintro _ w1 ⟨rfl, hb⟩
  have HB := hide (bthen (unhide HB) hb)
  clear hb
  go_wp2_with fail
  refine (unhide HR _).mono ?_
  rintro _ w2 ⟨rfl, hb⟩
  have HB := hide (bthen (unhide HB) hb)
  clear hb
  go_wp2_with fail
  go_ret
  exact ⟨rfl, unhide HB⟩
set_option maxHeartbeats 4000000 in
set_option maxRecDepth 100000 in
theorem rotr_m {w a b m z : Int} (hm : IntKind.u64.wrap (-b) = m) (HR : Ct 26 #[.int .i64 w, .int .u64 a, .int .u64 m] (.int .u64 z)) : Ct 27 #[.int .i64 w, .int .u64 a, .int .u64 b] (.int .u64 z) := by
  refine hide (fun W => ?_)
  have HB := hide (Below.refl W.heap.size W)
  go_enter Try.func27, Try.ntmps27
  go_wp2_with fail
  refine (unhide HR _).mono ?_
  rintro _ w1 ⟨rfl, hb⟩
  have HB := hide (bthen (unhide HB) hb)
  clear hb
  go_wp2_with fail
  go_ret
  exact ⟨rfl, unhide HB⟩
set_option maxHeartbeats 4000000 in
set_option maxRecDepth 100000 in
theorem pop_m {w a c p r : Int} (HC : Ct 48 #[.int .i64 w, .int .u64 a] (.int .u64 c)) (HP : Ct 66 #[.int .u64 c] (.int .i64 p)) (hr : IntKind.u64.wrap p = r) : Ct 31 #[.int .i64 w, .int .u64 a] (.int .u64 r) := by
  refine hide (fun W => ?_)
  have HB := hide (Below.refl W.heap.size W)
  go_enter Try.func31, Try.ntmps31
  go_wp2_with fail
  refine (unhide HC _).mono ?_
  rintro _ w1 ⟨rfl, hb⟩
  have HB := hide (bthen (unhide HB) hb)
  clear hb
  go_wp2_with fail
  refine (unhide HP _).mono ?_
  rintro _ w2 ⟨rfl, hb⟩
  have HB := hide (bthen (unhide HB) hb)
  clear hb
  go_wp2_with fail
  go_ret
  exact ⟨rfl, unhide HB⟩
set_option maxHeartbeats 4000000 in
set_option maxRecDepth 100000 in
theorem dividedU_m {w a b q r t : Int} (HF : Ct 70 #[.int .i64 w, .int .u64 a, .int .u64 b, .func (.func 71) #[] #[], .func (.func 72) #[] #[]] (.agg #[.int .u64 q, .int .u64 r, .int .i64 t])) : Ct 46 #[.int .i64 w, .int .u64 a, .int .u64 b] (.agg #[.int .u64 q, .int .u64 r, .int .i64 t]) := by
  refine hide (fun W => ?_)
  go_enter Try.func46, Try.ntmps46
  go_wp2_with fail
  have HB := hide (below1 W (.cells #[.int .u64 0, .int .u64 0, .int .i64 0] 51))
  have HR : Hid (Room W.heap.size 3 (W.alloc (.cells #[.int .u64 0, .int .u64 0, .int .i64 0] 51))) := by
    intro o ho
    match o, ho with
    | 0, _ | 1, _ | 2, _ => simp [go_sem]
  refine (unhide HF _).mono ?_
  rintro _ w1 ⟨rfl, hb⟩
  have HB := hide (bthen (unhide HB) hb)
  have HR := hide ((unhide HR).below hb)
  clear hb
  obtain ⟨⟨v0, c0⟩, f0⟩ := (unhide HR) 0 (by omega)
  obtain ⟨⟨v1, c1⟩, f1⟩ := (unhide HR) 1 (by omega)
  obtain ⟨⟨v2, c2⟩, f2⟩ := (unhide HR) 2 (by omega)
  have zy := lt_of_cell c0
  go_wp2
  exact bodyPost_ret (v := .agg #[.int .u64 q, .int .u64 r, .int .i64 t]) (by simp (maxDischargeDepth := 8) [results, Try.results46, go_sem, c0, c1, c2]) rfl ⟨rfl, bset (bset (bset (unhide HB) _ (Nat.le_refl _) _ _) _ (Nat.le_refl _) _ _) _ (Nat.le_refl _) _ _⟩
set_option maxHeartbeats 4000000 in
set_option maxRecDepth 100000 in
theorem dividedS_m {w a b q r t : Int} (HF : Ct 73 #[.int .i64 w, .int .u64 a, .int .u64 b, .func (.func 74) #[] #[], .func (.func 75) #[] #[]] (.agg #[.int .u64 q, .int .u64 r, .int .i64 t])) : Ct 47 #[.int .i64 w, .int .u64 a, .int .u64 b] (.agg #[.int .u64 q, .int .u64 r, .int .i64 t]) := by
  refine hide (fun W => ?_)
  go_enter Try.func47, Try.ntmps47
  go_wp2_with fail
  have HB := hide (below1 W (.cells #[.int .u64 0, .int .u64 0, .int .i64 0] 51))
  have HR : Hid (Room W.heap.size 3 (W.alloc (.cells #[.int .u64 0, .int .u64 0, .int .i64 0] 51))) := by
    intro o ho
    match o, ho with
    | 0, _ | 1, _ | 2, _ => simp [go_sem]
  refine (unhide HF _).mono ?_
  rintro _ w1 ⟨rfl, hb⟩
  have HB := hide (bthen (unhide HB) hb)
  have HR := hide ((unhide HR).below hb)
  clear hb
  obtain ⟨⟨v0, c0⟩, f0⟩ := (unhide HR) 0 (by omega)
  obtain ⟨⟨v1, c1⟩, f1⟩ := (unhide HR) 1 (by omega)
  obtain ⟨⟨v2, c2⟩, f2⟩ := (unhide HR) 2 (by omega)
  have zy := lt_of_cell c0
  go_wp2
  exact bodyPost_ret (v := .agg #[.int .u64 q, .int .u64 r, .int .i64 t]) (by simp (maxDischargeDepth := 8) [results, Try.results47, go_sem, c0, c1, c2]) rfl ⟨rfl, bset (bset (bset (unhide HB) _ (Nat.le_refl _) _ _) _ (Nat.le_refl _) _ _) _ (Nat.le_refl _) _ _⟩
set_option maxHeartbeats 4000000 in
set_option maxRecDepth 100000 in
theorem divu_m {w a b q r t : Int} (HD : Ct 46 #[.int .i64 w, .int .u64 a, .int .u64 b] (.agg #[.int .u64 q, .int .u64 r, .int .i64 t]))  : Ct 16 #[.int .i64 w, .int .u64 a, .int .u64 b] (.tuple #[.int .u64 q, .int .i64 t]) := by
  refine hide (fun W => ?_)
  go_enter Try.func16, Try.ntmps16
  go_wp2_with fail
  refine (unhide HD _).mono ?_
  rintro _ w1 ⟨rfl, hb⟩
  have HB := hide (balloc hb (.cells #[.int .u64 q, .int .u64 r, .int .i64 t] 51))
  have HA := hide (at3_new w1 (.int .u64 q) (.int .u64 r) (.int .i64 t) 51)
  clear hb
  go_wp2_with fail
  have HB := hide ((unhide HB).drew)
  have HA := hide ((unhide HA).below ((Below.refl _ _).drew))
  refine wp_region_held_drew (S := fun w' => (w'.cell? ⟨w1.heap.size, 0, none⟩ = some (.int .u64 q) ∧ w'.cell? ⟨w1.heap.size, 1, none⟩ = some (.int .u64 r) ∧ w'.cell? ⟨w1.heap.size, 2, none⟩ = some (.int .i64 t))) (by kernel_rfl) ?_ (fun hHeld => ?_)
  · (try dsimp only)
    exact unhide HA
  refine lst0 6 (by kernel_rfl) ?_
  refine tkA 0 13 1 ?_
  refine tkA 1 14 3 ?_
  refine tkA 2 15 7 ?_
  refine tkA 3 16 15 ?_
  refine tkA 4 6 31 ?_
  refine tkA 5 7 63 ?_
  refine wpAnyH_done (by kernel_rfl) ?_ _
  clear hHeld
  go_wp2_with fail
  go_ret2
  exact ⟨rfl, unhide HB⟩
set_option maxHeartbeats 4000000 in
set_option maxRecDepth 100000 in
theorem remu_m {w a b q r t : Int} (HD : Ct 46 #[.int .i64 w, .int .u64 a, .int .u64 b] (.agg #[.int .u64 q, .int .u64 r, .int .i64 t]))  : Ct 17 #[.int .i64 w, .int .u64 a, .int .u64 b] (.tuple #[.int .u64 r, .int .i64 t]) := by
  refine hide (fun W => ?_)
  go_enter Try.func17, Try.ntmps17
  go_wp2_with fail
  refine (unhide HD _).mono ?_
  rintro _ w1 ⟨rfl, hb⟩
  have HB := hide (balloc hb (.cells #[.int .u64 q, .int .u64 r, .int .i64 t] 51))
  have HA := hide (at3_new w1 (.int .u64 q) (.int .u64 r) (.int .i64 t) 51)
  clear hb
  go_wp2_with fail
  have HB := hide ((unhide HB).drew)
  have HA := hide ((unhide HA).below ((Below.refl _ _).drew))
  refine wp_region_held_drew (S := fun w' => (w'.cell? ⟨w1.heap.size, 0, none⟩ = some (.int .u64 q) ∧ w'.cell? ⟨w1.heap.size, 1, none⟩ = some (.int .u64 r) ∧ w'.cell? ⟨w1.heap.size, 2, none⟩ = some (.int .i64 t))) (by kernel_rfl) ?_ (fun hHeld => ?_)
  · (try dsimp only)
    exact unhide HA
  refine lst0 6 (by kernel_rfl) ?_
  refine tkA 0 13 1 ?_
  refine tkA 1 14 3 ?_
  refine tkA 2 15 7 ?_
  refine tkA 3 16 15 ?_
  refine tkA 4 6 31 ?_
  refine tkA 5 7 63 ?_
  refine wpAnyH_done (by kernel_rfl) ?_ _
  clear hHeld
  go_wp2_with fail
  go_ret2
  exact ⟨rfl, unhide HB⟩
set_option maxHeartbeats 4000000 in
set_option maxRecDepth 100000 in
theorem divs_m {w a b q r t z : Int} (HD : Ct 47 #[.int .i64 w, .int .u64 a, .int .u64 b] (.agg #[.int .u64 q, .int .u64 r, .int .i64 t])) (HC : Ct 48 #[.int .i64 w, .int .u64 q] (.int .u64 z)) : Ct 18 #[.int .i64 w, .int .u64 a, .int .u64 b] (.tuple #[.int .u64 z, .int .i64 t]) := by
  refine hide (fun W => ?_)
  go_enter Try.func18, Try.ntmps18
  go_wp2_with fail
  refine (unhide HD _).mono ?_
  rintro _ w1 ⟨rfl, hb⟩
  have HB := hide (balloc hb (.cells #[.int .u64 q, .int .u64 r, .int .i64 t] 51))
  have HA := hide (at3_new w1 (.int .u64 q) (.int .u64 r) (.int .i64 t) 51)
  clear hb
  go_wp2_with fail
  have HB := hide ((unhide HB).drew)
  have HA := hide ((unhide HA).below ((Below.refl _ _).drew))
  refine wp_region_held_drew (S := fun w' => (w'.cell? ⟨w1.heap.size, 0, none⟩ = some (.int .u64 q) ∧ w'.cell? ⟨w1.heap.size, 1, none⟩ = some (.int .u64 r) ∧ w'.cell? ⟨w1.heap.size, 2, none⟩ = some (.int .i64 t))) (by kernel_rfl) ?_ (fun hHeld => ?_)
  · (try dsimp only)
    exact unhide HA
  refine lst0 8 (by kernel_rfl) ?_
  refine tkA 0 13 1 ?_
  refine tkA 1 14 3 ?_
  refine tkA 2 15 7 ?_
  refine tkA 4 17 23 ?_
  refine tkA 5 18 55 ?_
  refine rdA 3 63 (fun Kk hKk => ?_)
  go_simp
  refine (unhide HC _).mono ?_
  rintro _ w2 ⟨rfl, hb⟩
  have HB := hide (bthen (unhide HB) hb)
  have HA := hide ((unhide HA).below hb)
  clear hb
  (try go_wp2_with fail)
  refine hKk.out _ _ ?_ (fun hHeld => ?_)
  · (try dsimp only)
    exact unhide HA
  clear hKk Kk
  (try simp only [List.setIfInBounds_toArray, List.set_cons_zero, List.set_cons_succ])
  refine tkA 6 6 127 ?_
  refine tkA 7 7 255 ?_
  refine wpAnyH_done (by kernel_rfl) ?_ _
  clear hHeld
  go_wp2_with fail
  go_ret2
  exact ⟨rfl, unhide HB⟩
set_option maxHeartbeats 4000000 in
set_option maxRecDepth 100000 in
theorem rems_m {w a b q r t z : Int} (HD : Ct 47 #[.int .i64 w, .int .u64 a, .int .u64 b] (.agg #[.int .u64 q, .int .u64 r, .int .i64 t])) (HC : Ct 48 #[.int .i64 w, .int .u64 r] (.int .u64 z)) (g : (t == 3) = false) : Ct 19 #[.int .i64 w, .int .u64 a, .int .u64 b] (.tuple #[.int .u64 z, .int .i64 t]) := by
  refine hide (fun W => ?_)
  go_enter Try.func19, Try.ntmps19
  go_wp2_with fail
  refine (unhide HD _).mono ?_
  rintro _ w1 ⟨rfl, hb⟩
  have HB := hide (balloc hb (.cells #[.int .u64 q, .int .u64 r, .int .i64 t] 51))
  have HA := hide (at3_new w1 (.int .u64 q) (.int .u64 r) (.int .i64 t) 51)
  clear hb
  obtain ⟨c0, c1, c2⟩ := unhide HA
  go_wp2_with fail
  clear c0 c1 c2
  have HB := hide ((unhide HB).drew)
  have HA := hide ((unhide HA).below ((Below.refl _ _).drew))
  refine wp_region_held_drew (S := fun w' => (w'.cell? ⟨w1.heap.size, 0, none⟩ = some (.int .u64 q) ∧ w'.cell? ⟨w1.heap.size, 1, none⟩ = some (.int .u64 r) ∧ w'.cell? ⟨w1.heap.size, 2, none⟩ = some (.int .i64 t))) (by kernel_rfl) ?_ (fun hHeld => ?_)
  · (try dsimp only)
    exact unhide HA
  refine lst0 8 (by kernel_rfl) ?_
  refine tkA 0 16 1 ?_
  refine tkA 1 17 3 ?_
  refine tkA 2 18 7 ?_
  refine tkA 4 20 23 ?_
  refine tkA 5 21 55 ?_
  refine rdA 3 63 (fun Kk hKk => ?_)
  go_simp
  refine (unhide HC _).mono ?_
  rintro _ w2 ⟨rfl, hb⟩
  have HB := hide (bthen (unhide HB) hb)
  have HA := hide ((unhide HA).below hb)
  clear hb
  (try go_wp2_with fail)
  refine hKk.out _ _ ?_ (fun hHeld => ?_)
  · (try dsimp only)
    exact unhide HA
  clear hKk Kk
  (try simp only [List.setIfInBounds_toArray, List.set_cons_zero, List.set_cons_succ])
  refine tkA 6 6 127 ?_
  refine tkA 7 7 255 ?_
  refine wpAnyH_done (by kernel_rfl) ?_ _
  clear hHeld
  go_wp2_with fail
  go_ret2
  exact ⟨rfl, unhide HB⟩
set_option maxHeartbeats 4000000 in
set_option maxRecDepth 100000 in
theorem rems_o {w a b q r : Int} (HD : Ct 47 #[.int .i64 w, .int .u64 a, .int .u64 b] (.agg #[.int .u64 q, .int .u64 r, .int .i64 3]))  : Ct 19 #[.int .i64 w, .int .u64 a, .int .u64 b] (.tuple #[.int .u64 0, .int .i64 0]) := by
  refine hide (fun W => ?_)
  go_enter Try.func19, Try.ntmps19
  go_wp2_with fail
  refine (unhide HD _).mono ?_
  rintro _ w1 ⟨rfl, hb⟩
  have HB := hide (balloc hb (.cells #[.int .u64 q, .int .u64 r, .int .i64 3] 51))
  have HA := hide (at3_new w1 (.int .u64 q) (.int .u64 r) (.int .i64 3) 51)
  clear hb
  obtain ⟨c0, c1, c2⟩ := unhide HA
  go_wp2_with fail
  go_ret2
  exact ⟨rfl, unhide HB⟩
end Go.Proofs.Ytjlegmgpgfjciaa
