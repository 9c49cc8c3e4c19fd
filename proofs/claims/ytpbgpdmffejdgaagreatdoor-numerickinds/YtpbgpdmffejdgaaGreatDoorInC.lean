/- Walks of package ints: what the package exports. -/
import Derived.Test.YtpbgpdmffejdgaaGreatDoorTk
namespace Go.Proofs.YtpbgpdmffejdgaaGreatDoor
open Go.RowKit

def At3 (b : Nat) (x y z : Value) (w : World) : Prop := w.cell? ⟨b, 0, none⟩ = some x ∧ w.cell? ⟨b, 1, none⟩ = some y ∧ w.cell? ⟨b, 2, none⟩ = some z
theorem At3.below {b : Nat} {x y z : Value} {w w' : World} (h : At3 b x y z w) (hb : Below w.heap.size w w') : At3 b x y z w' :=
  have hz := lt_of_cell h.1
  ⟨keep1 hb hz h.1, keep1 hb hz h.2.1, keep1 hb hz h.2.2⟩
theorem at3_new (w : World) (x y z : Value) (t : TypeId) : At3 w.heap.size x y z (w.alloc (.cells #[x, y, z] t)) := by unfold At3; simp [go_sem]

set_option maxHeartbeats 4000000 in
set_option maxRecDepth 100000 in
theorem add_m {w a b v : Int} (HR : Ct 212 #[.int .i64 w, .int .u64 a, .int .u64 b, .func (.func 225) #[] #[], .func (.func 226) #[] #[]] (.int .u64 v)) : Ct 146 #[.int .i64 w, .int .u64 a, .int .u64 b] (.int .u64 v) := by
  refine hide (fun W => ?_)
  have HB := hide (Below.refl W.heap.size W)
  go_enter Tryz.func146, Tryz.ntmps146
  go_wp2_with fail
  refine (unhide HR _).mono ?_
  rintro _ w1 ⟨rfl, hb⟩
  have HB := hide (bthen (unhide HB) hb)
  clear hb
  go_wp2_with fail
  go_ret
  exact ⟨rfl, unhide HB⟩
set_option maxHeartbeats 4000000 in
set_option maxRecDepth 100000 in
theorem sub_m {w a b v : Int} (HR : Ct 212 #[.int .i64 w, .int .u64 a, .int .u64 b, .func (.func 227) #[] #[], .func (.func 228) #[] #[]] (.int .u64 v)) : Ct 147 #[.int .i64 w, .int .u64 a, .int .u64 b] (.int .u64 v) := by
  refine hide (fun W => ?_)
  have HB := hide (Below.refl W.heap.size W)
  go_enter Tryz.func147, Tryz.ntmps147
  go_wp2_with fail
  refine (unhide HR _).mono ?_
  rintro _ w1 ⟨rfl, hb⟩
  have HB := hide (bthen (unhide HB) hb)
  clear hb
  go_wp2_with fail
  go_ret
  exact ⟨rfl, unhide HB⟩
set_option maxHeartbeats 4000000 in
set_option maxRecDepth 100000 in
theorem mul_m {w a b v : Int} (HR : Ct 212 #[.int .i64 w, .int .u64 a, .int .u64 b, .func (.func 229) #[] #[], .func (.func 230) #[] #[]] (.int .u64 v)) : Ct 148 #[.int .i64 w, .int .u64 a, .int .u64 b] (.int .u64 v) := by
  refine hide (fun W => ?_)
  have HB := hide (Below.refl W.heap.size W)
  go_enter Tryz.func148, Tryz.ntmps148
  go_wp2_with fail
  refine (unhide HR _).mono ?_
  rintro _ w1 ⟨rfl, hb⟩
  have HB := hide (bthen (unhide HB) hb)
  clear hb
  go_wp2_with fail
  go_ret
  exact ⟨rfl, unhide HB⟩
set_option maxHeartbeats 4000000 in
set_option maxRecDepth 100000 in
theorem ltu_m {w a b : Int} {v : Bool} (HR : Ct 126 #[.int .i64 w, .int .u64 a, .int .u64 b, .func (.func 127) #[] #[], .func (.func 128) #[] #[]] (.bool v)) : Ct 65 #[.int .i64 w, .int .u64 a, .int .u64 b] (.bool v) := by
  refine hide (fun W => ?_)
  have HB := hide (Below.refl W.heap.size W)
  go_enter Tryz.func65, Tryz.ntmps65
  go_wp2_with fail
  refine (unhide HR _).mono ?_
  rintro _ w1 ⟨rfl, hb⟩
  have HB := hide (bthen (unhide HB) hb)
  clear hb
  go_wp2_with fail
  go_ret
  exact ⟨rfl, unhide HB⟩
set_option maxHeartbeats 4000000 in
set_option maxRecDepth 100000 in
theorem shl_m {w a b n v : Int} (HS : Ct 213 #[.int .i64 w, .int .u64 b] (.int .u64 n)) (HR : Ct 212 #[.int .i64 w, .int .u64 a, .int .u64 n, .func (.func 214) #[] #[], .func (.func 215) #[] #[]] (.int .u64 v)) : Ct 138 #[.int .i64 w, .int .u64 a, .int .u64 b] (.int .u64 v) := by
  refine hide (fun W => ?_)
  have HB := hide (Below.refl W.heap.size W)
  go_enter Tryz.func138, Tryz.ntmps138
  go_wp2_with fail
  refine (unhide HS _).mono ?_
  rintro _ w1 ⟨rfl, hb⟩
  have HB := hide (bthen (unhide HB) hb)
  clear hb
  go_wp2_with fail
  refine (unhide HR _).mono ?_
  rintro _ w2 ⟨rfl, hb⟩
  have HB := hide (bthen (unhide HB) hb)
  clear hb
  go_wp2_with fail
  go_ret
  exact ⟨rfl, unhide HB⟩
set_option maxHeartbeats 4000000 in
set_option maxRecDepth 100000 in
theorem shr_m {w a b n v : Int} (HS : Ct 213 #[.int .i64 w, .int .u64 b] (.int .u64 n)) (HR : Ct 212 #[.int .i64 w, .int .u64 a, .int .u64 n, .func (.func 219) #[] #[], .func (.func 220) #[] #[]] (.int .u64 v)) : Ct 140 #[.int .i64 w, .int .u64 a, .int .u64 b] (.int .u64 v) := by
  refine hide (fun W => ?_)
  have HB := hide (Below.refl W.heap.size W)
  go_enter Tryz.func140, Tryz.ntmps140
  go_wp2_with fail
  refine (unhide HS _).mono ?_
  rintro _ w1 ⟨rfl, hb⟩
  have HB := hide (bthen (unhide HB) hb)
  clear hb
  go_wp2_with fail
  refine (unhide HR _).mono ?_
  rintro _ w2 ⟨rfl, hb⟩
  have HB := hide (bthen (unhide HB) hb)
  clear hb
  go_wp2_with fail
  go_ret
  exact ⟨rfl, unhide HB⟩
set_option maxHeartbeats 4000000 in
set_option maxRecDepth 100000 in
theorem sar_m {w a b n v z : Int} (HS : Ct 213 #[.int .i64 w, .int .u64 b] (.int .u64 n)) (HR : Ct 216 #[.int .i64 w, .int .u64 a, .int .u64 n, .func (.func 217) #[] #[], .func (.func 218) #[] #[]] (.int .u64 v)) (HC : Ct 17 #[.int .i64 w, .int .u64 v] (.int .u64 z)) : Ct 139 #[.int .i64 w, .int .u64 a, .int .u64 b] (.int .u64 z) := by
  refine hide (fun W => ?_)
  have HB := hide (Below.refl W.heap.size W)
  go_enter Tryz.func139, Tryz.ntmps139
  go_wp2_with fail
  refine (unhide HS _).mono ?_
  rintro _ w1 ⟨rfl, hb⟩
  have HB := hide (bthen (unhide HB) hb)
  clear hb
  go_wp2_with fail
  refine (unhide HR _).mono ?_
  rintro _ w2 ⟨rfl, hb⟩
  have HB := hide (bthen (unhide HB) hb)
  clear hb
  go_wp2_with fail
  refine (unhide HC _).mono ?_
  rintro _ w3 ⟨rfl, hb⟩
  have HB := hide (bthen (unhide HB) hb)
  clear hb
  go_wp2_with fail
  go_ret
  exact ⟨rfl, unhide HB⟩
set_option maxHeartbeats 4000000 in
set_option maxRecDepth 100000 in
theorem rotl_m {w a b m x y z : Int} (HL : Ct 138 #[.int .i64 w, .int .u64 a, .int .u64 b] (.int .u64 x)) (hm : IntKind.u64.wrap (-b) = m) (HR : Ct 140 #[.int .i64 w, .int .u64 a, .int .u64 m] (.int .u64 y)) (hz : bits .or .u64 x y = z) : Ct 141 #[.int .i64 w, .int .u64 a, .int .u64 b] (.int .u64 z) := by
  refine hide (fun W => ?_)
  have HB := hide (Below.refl W.heap.size W)
  go_enter Tryz.func141, Tryz.ntmps141
  go_wp2_with fail
  refine (unhide HL _).mono ?_
  rintro _ w1 ⟨rfl, hb⟩
  have HB := hide (bthen (unhide HB) hb)
  clear hb
  go_wp2_with fail
  refine (unhide HR _).mono ?_
  rintro _ w2 ⟨rfl, hb⟩
  have HB := hide (bthen (unhide HB) hb)
  clear hb
  go_wp2_with fail
  go_ret
  exact ⟨rfl, unhide HB⟩
set_option maxHeartbeats 4000000 in
set_option maxRecDepth 100000 in
theorem rotr_m {w a b m z : Int} (hm : IntKind.u64.wrap (-b) = m) (HR : Ct 141 #[.int .i64 w, .int .u64 a, .int .u64 m] (.int .u64 z)) : Ct 142 #[.int .i64 w, .int .u64 a, .int .u64 b] (.int .u64 z) := by
  refine hide (fun W => ?_)
  have HB := hide (Below.refl W.heap.size W)
  go_enter Tryz.func142, Tryz.ntmps142
  go_wp2_with fail
  refine (unhide HR _).mono ?_
  rintro _ w1 ⟨rfl, hb⟩
  have HB := hide (bthen (unhide HB) hb)
  clear hb
  go_wp2_with fail
  go_ret
  exact ⟨rfl, unhide HB⟩
set_option maxHeartbeats 4000000 in
set_option maxRecDepth 100000 in
theorem pop_m {w a c p r : Int} (HC : Ct 17 #[.int .i64 w, .int .u64 a] (.int .u64 c)) (HP : Ct 224 #[.int .u64 c] (.int .i64 p)) (hr : IntKind.u64.wrap p = r) : Ct 145 #[.int .i64 w, .int .u64 a] (.int .u64 r) := by
  refine hide (fun W => ?_)
  have HB := hide (Below.refl W.heap.size W)
  go_enter Tryz.func145, Tryz.ntmps145
  go_wp2_with fail
  refine (unhide HC _).mono ?_
  rintro _ w1 ⟨rfl, hb⟩
  have HB := hide (bthen (unhide HB) hb)
  clear hb
  go_wp2_with fail
  refine (unhide HP _).mono ?_
  rintro _ w2 ⟨rfl, hb⟩
  have HB := hide (bthen (unhide HB) hb)
  clear hb
  go_wp2_with fail
  go_ret
  exact ⟨rfl, unhide HB⟩
set_option maxHeartbeats 4000000 in
set_option maxRecDepth 100000 in
theorem dividedU_m {w a b q r t : Int} (HF : Ct 209 #[.int .i64 w, .int .u64 a, .int .u64 b, .func (.func 210) #[] #[], .func (.func 211) #[] #[]] (.agg #[.int .u64 q, .int .u64 r, .int .i64 t])) : Ct 137 #[.int .i64 w, .int .u64 a, .int .u64 b] (.agg #[.int .u64 q, .int .u64 r, .int .i64 t]) := by
  refine hide (fun W => ?_)
  go_enter Tryz.func137, Tryz.ntmps137
  go_wp2_with fail
  have HB := hide (below1 W (.cells #[.int .u64 0, .int .u64 0, .int .i64 0] 127))
  have HR : Hid (Room W.heap.size 3 (W.alloc (.cells #[.int .u64 0, .int .u64 0, .int .i64 0] 127))) := by
    intro o ho
    match o, ho with
    | 0, _ | 1, _ | 2, _ => simp [go_sem]
  refine (unhide HF _).mono ?_
  rintro _ w1 ⟨rfl, hb⟩
  have HB := hide (bthen (unhide HB) hb)
  have HR := hide ((unhide HR).below hb)
  clear hb
  obtain ⟨⟨v0, c0⟩, f0⟩ := (unhide HR) 0 (by omega)
  obtain ⟨⟨v1, c1⟩, f1⟩ := (unhide HR) 1 (by omega)
  obtain ⟨⟨v2, c2⟩, f2⟩ := (unhide HR) 2 (by omega)
  have zy := lt_of_cell c0
  go_wp2
  exact bodyPost_ret (v := .agg #[.int .u64 q, .int .u64 r, .int .i64 t]) (by simp (maxDischargeDepth := 8) [results, Tryz.results137, go_sem, c0, c1, c2]) rfl ⟨rfl, bset (bset (bset (unhide HB) _ (Nat.le_refl _) _ _) _ (Nat.le_refl _) _ _) _ (Nat.le_refl _) _ _⟩
set_option maxHeartbeats 4000000 in
set_option maxRecDepth 100000 in
theorem dividedS_m {w a b q r t : Int} (HF : Ct 206 #[.int .i64 w, .int .u64 a, .int .u64 b, .func (.func 207) #[] #[], .func (.func 208) #[] #[]] (.agg #[.int .u64 q, .int .u64 r, .int .i64 t])) : Ct 136 #[.int .i64 w, .int .u64 a, .int .u64 b] (.agg #[.int .u64 q, .int .u64 r, .int .i64 t]) := by
  refine hide (fun W => ?_)
  go_enter Tryz.func136, Tryz.ntmps136
  go_wp2_with fail
  have HB := hide (below1 W (.cells #[.int .u64 0, .int .u64 0, .int .i64 0] 127))
  have HR : Hid (Room W.heap.size 3 (W.alloc (.cells #[.int .u64 0, .int .u64 0, .int .i64 0] 127))) := by
    intro o ho
    match o, ho with
    | 0, _ | 1, _ | 2, _ => simp [go_sem]
  refine (unhide HF _).mono ?_
  rintro _ w1 ⟨rfl, hb⟩
  have HB := hide (bthen (unhide HB) hb)
  have HR := hide ((unhide HR).below hb)
  clear hb
  obtain ⟨⟨v0, c0⟩, f0⟩ := (unhide HR) 0 (by omega)
  obtain ⟨⟨v1, c1⟩, f1⟩ := (unhide HR) 1 (by omega)
  obtain ⟨⟨v2, c2⟩, f2⟩ := (unhide HR) 2 (by omega)
  have zy := lt_of_cell c0
  go_wp2
  exact bodyPost_ret (v := .agg #[.int .u64 q, .int .u64 r, .int .i64 t]) (by simp (maxDischargeDepth := 8) [results, Tryz.results136, go_sem, c0, c1, c2]) rfl ⟨rfl, bset (bset (bset (unhide HB) _ (Nat.le_refl _) _ _) _ (Nat.le_refl _) _ _) _ (Nat.le_refl _) _ _⟩
set_option maxHeartbeats 4000000 in
set_option maxRecDepth 100000 in
theorem divu_m {w a b q r t : Int} (HD : Ct 137 #[.int .i64 w, .int .u64 a, .int .u64 b] (.agg #[.int .u64 q, .int .u64 r, .int .i64 t]))  : Ct 73 #[.int .i64 w, .int .u64 a, .int .u64 b] (.tuple #[.int .u64 q, .int .i64 t]) := by
  refine hide (fun W => ?_)
  go_enter Tryz.func73, Tryz.ntmps73
  go_wp2_with fail
  refine (unhide HD _).mono ?_
  rintro _ w1 ⟨rfl, hb⟩
  have HB := hide (balloc hb (.cells #[.int .u64 q, .int .u64 r, .int .i64 t] 127))
  have HA := hide (at3_new w1 (.int .u64 q) (.int .u64 r) (.int .i64 t) 127)
  clear hb
  go_wp2_with fail
  have HB := hide ((unhide HB).drew)
  have HA := hide ((unhide HA).below ((Below.refl _ _).drew))
  refine wp_region_held_drew (S := fun w' => (w'.cell? ⟨w1.heap.size, 0, none⟩ = some (.int .u64 q) ∧ w'.cell? ⟨w1.heap.size, 1, none⟩ = some (.int .u64 r) ∧ w'.cell? ⟨w1.heap.size, 2, none⟩ = some (.int .i64 t))) (by kernel_rfl) ?_ (fun hHeld => ?_)
  · (try dsimp only)
    exact unhide HA
  refine lst0 6 (by kernel_rfl) ?_
  refine tkA 0 13 1 ?_
  refine tkA 1 14 3 ?_
  refine tkA 2 15 7 ?_
  refine tkA 3 16 15 ?_
  refine tkA 4 6 31 ?_
  refine tkA 5 7 63 ?_
  refine wpAnyH_done (by kernel_rfl) ?_ _
  clear hHeld
  go_wp2_with fail
  go_ret2
  exact ⟨rfl, unhide HB⟩
set_option maxHeartbeats 4000000 in
set_option maxRecDepth 100000 in
theorem remu_m {w a b q r t : Int} (HD : Ct 137 #[.int .i64 w, .int .u64 a, .int .u64 b] (.agg #[.int .u64 q, .int .u64 r, .int .i64 t]))  : Ct 75 #[.int .i64 w, .int .u64 a, .int .u64 b] (.tuple #[.int .u64 r, .int .i64 t]) := by
  refine hide (fun W => ?_)
  go_enter Tryz.func75, Tryz.ntmps75
  go_wp2_with fail
  refine (unhide HD _).mono ?_
  rintro _ w1 ⟨rfl, hb⟩
  have HB := hide (balloc hb (.cells #[.int .u64 q, .int .u64 r, .int .i64 t] 127))
  have HA := hide (at3_new w1 (.int .u64 q) (.int .u64 r) (.int .i64 t) 127)
  clear hb
  go_wp2_with fail
  have HB := hide ((unhide HB).drew)
  have HA := hide ((unhide HA).below ((Below.refl _ _).drew))
  refine wp_region_held_drew (S := fun w' => (w'.cell? ⟨w1.heap.size, 0, none⟩ = some (.int .u64 q) ∧ w'.cell? ⟨w1.heap.size, 1, none⟩ = some (.int .u64 r) ∧ w'.cell? ⟨w1.heap.size, 2, none⟩ = some (.int .i64 t))) (by kernel_rfl) ?_ (fun hHeld => ?_)
  · (try dsimp only)
    exact unhide HA
  refine lst0 6 (by kernel_rfl) ?_
  refine tkA 0 13 1 ?_
  refine tkA 1 14 3 ?_
  refine tkA 2 15 7 ?_
  refine tkA 3 16 15 ?_
  refine tkA 4 6 31 ?_
  refine tkA 5 7 63 ?_
  refine wpAnyH_done (by kernel_rfl) ?_ _
  clear hHeld
  go_wp2_with fail
  go_ret2
  exact ⟨rfl, unhide HB⟩
set_option maxHeartbeats 4000000 in
set_option maxRecDepth 100000 in
theorem divs_m {w a b q r t z : Int} (HD : Ct 136 #[.int .i64 w, .int .u64 a, .int .u64 b] (.agg #[.int .u64 q, .int .u64 r, .int .i64 t])) (HC : Ct 17 #[.int .i64 w, .int .u64 q] (.int .u64 z)) : Ct 72 #[.int .i64 w, .int .u64 a, .int .u64 b] (.tuple #[.int .u64 z, .int .i64 t]) := by
  refine hide (fun W => ?_)
  go_enter Tryz.func72, Tryz.ntmps72
  go_wp2_with fail
  refine (unhide HD _).mono ?_
  rintro _ w1 ⟨rfl, hb⟩
  have HB := hide (balloc hb (.cells #[.int .u64 q, .int .u64 r, .int .i64 t] 127))
  have HA := hide (at3_new w1 (.int .u64 q) (.int .u64 r) (.int .i64 t) 127)
  clear hb
  go_wp2_with fail
  have HB := hide ((unhide HB).drew)
  have HA := hide ((unhide HA).below ((Below.refl _ _).drew))
  refine wp_region_held_drew (S := fun w' => (w'.cell? ⟨w1.heap.size, 0, none⟩ = some (.int .u64 q) ∧ w'.cell? ⟨w1.heap.size, 1, none⟩ = some (.int .u64 r) ∧ w'.cell? ⟨w1.heap.size, 2, none⟩ = some (.int .i64 t))) (by kernel_rfl) ?_ (fun hHeld => ?_)
  · (try dsimp only)
    exact unhide HA
  refine lst0 8 (by kernel_rfl) ?_
  refine tkA 0 13 1 ?_
  refine tkA 1 14 3 ?_
  refine tkA 2 15 7 ?_
  refine tkA 4 17 23 ?_
  refine tkA 5 18 55 ?_
  refine rdA 3 63 (fun Kk hKk => ?_)
  go_simp
  refine (unhide HC _).mono ?_
  rintro _ w2 ⟨rfl, hb⟩
  have HB := hide (bthen (unhide HB) hb)
  have HA := hide ((unhide HA).below hb)
  clear hb
  (try go_wp2_with fail)
  refine hKk.out _ _ ?_ (fun hHeld => ?_)
  · (try dsimp only)
    exact unhide HA
  clear hKk Kk
  (try simp only [List.setIfInBounds_toArray, List.set_cons_zero, List.set_cons_succ])
  refine tkA 6 6 127 ?_
  refine tkA 7 7 255 ?_
  refine wpAnyH_done (by kernel_rfl) ?_ _
  clear hHeld
  go_wp2_with fail
  go_ret2
  exact ⟨rfl, unhide HB⟩
set_option maxHeartbeats 4000000 in
set_option maxRecDepth 100000 in
theorem rems_m {w a b q r t z : Int} (HD : Ct 136 #[.int .i64 w, .int .u64 a, .int .u64 b] (.agg #[.int .u64 q, .int .u64 r, .int .i64 t])) (HC : Ct 17 #[.int .i64 w, .int .u64 r] (.int .u64 z)) (g : (t == 3) = false) : Ct 74 #[.int .i64 w, .int .u64 a, .int .u64 b] (.tuple #[.int .u64 z, .int .i64 t]) := by
  refine hide (fun W => ?_)
  go_enter Tryz.func74, Tryz.ntmps74
  go_wp2_with fail
  refine (unhide HD _).mono ?_
  rintro _ w1 ⟨rfl, hb⟩
  have HB := hide (balloc hb (.cells #[.int .u64 q, .int .u64 r, .int .i64 t] 127))
  have HA := hide (at3_new w1 (.int .u64 q) (.int .u64 r) (.int .i64 t) 127)
  clear hb
  obtain ⟨c0, c1, c2⟩ := unhide HA
  go_wp2_with fail
  clear c0 c1 c2
  have HB := hide ((unhide HB).drew)
  have HA := hide ((unhide HA).below ((Below.refl _ _).drew))
  refine wp_region_held_drew (S := fun w' => (w'.cell? ⟨w1.heap.size, 0, none⟩ = some (.int .u64 q) ∧ w'.cell? ⟨w1.heap.size, 1, none⟩ = some (.int .u64 r) ∧ w'.cell? ⟨w1.heap.size, 2, none⟩ = some (.int .i64 t))) (by kernel_rfl) ?_ (fun hHeld => ?_)
  · (try dsimp only)
    exact unhide HA
  refine lst0 8 (by kernel_rfl) ?_
  refine tkA 0 16 1 ?_
  refine tkA 1 17 3 ?_
  refine tkA 2 18 7 ?_
  refine tkA 4 20 23 ?_
  refine tkA 5 21 55 ?_
  refine rdA 3 63 (fun Kk hKk => ?_)
  go_simp
  refine (unhide HC _).mono ?_
  rintro _ w2 ⟨rfl, hb⟩
  have HB := hide (bthen (unhide HB) hb)
  have HA := hide ((unhide HA).below hb)
  clear hb
  (try go_wp2_with fail)
  refine hKk.out _ _ ?_ (fun hHeld => ?_)
  · (try dsimp only)
    exact unhide HA
  clear hKk Kk
  (try simp only [List.setIfInBounds_toArray, List.set_cons_zero, List.set_cons_succ])
  refine tkA 6 6 127 ?_
  refine tkA 7 7 255 ?_
  refine wpAnyH_done (by kernel_rfl) ?_ _
  clear hHeld
  go_wp2_with fail
  go_ret2
  exact ⟨rfl, unhide HB⟩
set_option maxHeartbeats 4000000 in
set_option maxRecDepth 100000 in
theorem rems_o {w a b q r : Int} (HD : Ct 136 #[.int .i64 w, .int .u64 a, .int .u64 b] (.agg #[.int .u64 q, .int .u64 r, .int .i64 3]))  : Ct 74 #[.int .i64 w, .int .u64 a, .int .u64 b] (.tuple #[.int .u64 0, .int .i64 0]) := by
  refine hide (fun W => ?_)
  go_enter Tryz.func74, Tryz.ntmps74
  go_wp2_with fail
  refine (unhide HD _).mono ?_
  rintro _ w1 ⟨rfl, hb⟩
  have HB := hide (balloc hb (.cells #[.int .u64 q, .int .u64 r, .int .i64 3] 127))
  have HA := hide (at3_new w1 (.int .u64 q) (.int .u64 r) (.int .i64 3) 127)
  clear hb
  obtain ⟨c0, c1, c2⟩ := unhide HA
  go_wp2_with fail
  go_ret2
  exact ⟨rfl, unhide HB⟩
set_option maxHeartbeats 4000000 in
set_option maxRecDepth 100000 in
theorem lts_m {w a b : Int} {v : Bool} (HR : Ct 123 #[.int .i64 w, .int .u64 a, .int .u64 b, .func (.func 124) #[] #[], .func (.func 125) #[] #[]] (.bool v)) : Ct 64 #[.int .i64 w, .int .u64 a, .int .u64 b] (.bool v) := by
  refine hide (fun W => ?_)
  have HB := hide (Below.refl W.heap.size W)
  go_enter Tryz.func64, Tryz.ntmps64
  go_wp2_with fail
  refine (unhide HR _).mono ?_
  rintro _ w1 ⟨rfl, hb⟩
  have HB := hide (bthen (unhide HB) hb)
  clear hb
  go_wp2_with fail
  go_ret
  exact ⟨rfl, unhide HB⟩
end Go.Proofs.YtpbgpdmffejdgaaGreatDoor
