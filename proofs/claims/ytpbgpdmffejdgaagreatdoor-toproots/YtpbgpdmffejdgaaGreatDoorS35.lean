/- InC, ChC, ToH. -/
import Derived.Test.YtpbgpdmffejdgaaGreatDoorS01
import Derived.Test.YtpbgpdmffejdgaaGreatDoorS22
import Derived.Test.YtpbgpdmffejdgaaGreatDoorS31
import Derived.Test.YtpbgpdmffejdgaaGreatDoorS34
namespace Go.Proofs.YtpbgpdmffejdgaaGreatDoor
open Go.RowKit

def At3 (b : Nat) (x y z : Value) (w : World) : Prop := w.cell? ⟨b, 0, none⟩ = some x ∧ w.cell? ⟨b, 1, none⟩ = some y ∧ w.cell? ⟨b, 2, none⟩ = some z
theorem At3.below {b : Nat} {x y z : Value} {w w' : World} (h : At3 b x y z w) (hb : Below w.heap.size w w') : At3 b x y z w' :=
  have hz := lt_of_cell h.1
  ⟨keep1 hb hz h.1, keep1 hb hz h.2.1, keep1 hb hz h.2.2⟩
theorem at3_new (w : World) (x y z : Value) (t : TypeId) : At3 w.heap.size x y z (w.alloc (.cells #[x, y, z] t)) := by unfold At3; simp [go_sem]

set_option maxHeartbeats 4000000 in
set_option maxRecDepth 100000 in
theorem add_m {w a b v : Int} (HR : Ct 212 #[.int .i64 w, .int .u64 a, .int .u64 b, .func (.func 225) #[] #[], .func (.func 226) #[] #[]] (.int .u64 v)) : Ct 146 #[.int .i64 w, .int .u64 a, .int .u64 b] (.int .u64 v) := by
  refine hide (fun W => ?_)
  have HB := hide (Below.refl W.heap.size W)
  go_enter Tryz.func146, Tryz.ntmps146
  go_wp2_with fail
  refine (unhide HR _).mono ?_
  rintro _ w1 ⟨rfl, hb⟩
  have HB := hide (bthen (unhide HB) hb)
  clear hb
  go_wp2_with fail
  go_ret
  exact ⟨rfl, unhide HB⟩
set_option maxHeartbeats 4000000 in
set_option maxRecDepth 100000 in
theorem sub_m {w a b v : Int} (HR : Ct 212 #[.int .i64 w, .int .u64 a, .int .u64 b, .func (.func 227) #[] #[], .func (.func 228) #[] #[]] (.int .u64 v)) : Ct 147 #[.int .i64 w, .int .u64 a, .int .u64 b] (.int .u64 v) := by
  refine hide (fun W => ?_)
  have HB := hide (Below.refl W.heap.size W)
  go_enter Tryz.func147, Tryz.ntmps147
  go_wp2_with fail
  refine (unhide HR _).mono ?_
  rintro _ w1 ⟨rfl, hb⟩
  have HB := hide (bthen (unhide HB) hb)
  clear hb
  go_wp2_with fail
  go_ret
  exact ⟨rfl, unhide HB⟩
set_option maxHeartbeats 4000000 in
set_option maxRecDepth 100000 in
theorem mul_m {w a b v : Int} (HR : Ct 212 #[.int .i64 w, .int .u64 a, .int .u64 b, .func (.func 229) #[] #[], .func (.func 230) #[] #[]] (.int .u64 v)) : Ct 148 #[.int .i64 w, .int .u64 a, .int .u64 b] (.int .u64 v) := by
  refine hide (fun W => ?_)
  have HB := hide (Below.refl W.heap.size W)
  go_enter Tryz.func148, Tryz.ntmps148
  go_wp2_with fail
  refine (unhide HR _).mono ?_
  rintro _ w1 ⟨rfl, hb⟩
  have HB := hide (bthen (unhide HB) hb)
  clear hb
  go_wp2_with fail
  go_ret
  exact ⟨rfl, unhide HB⟩
set_option maxHeartbeats 4000000 in
set_option maxRecDepth 100000 in
theorem ltu_m {w a b : Int} {v : Bool} (HR : Ct 126 #[.int .i64 w, .int .u64 a, .int .u64 b, .func (.func 127) #[] #[], .func (.func 128) #[] #[]] (.bool v)) : Ct 65 #[.int .i64 w, .int .u64 a, .int .u64 b] (.bool v) := by
  refine hide (fun W => ?_)
  have HB := hide (Below.refl W.heap.size W)
  go_enter Tryz.func65, Tryz.ntmps65
  go_wp2_with fail
  refine (unhide HR _).mono ?_
  rintro _ w1 ⟨rfl, hb⟩
  have HB := hide (bthen (unhide HB) hb)
  clear hb
  go_wp2_with fail
  go_ret
  exact ⟨rfl, unhide HB⟩
set_option maxHeartbeats 4000000 in
set_option maxRecDepth 100000 in
theorem shl_m {w a b n v : Int} (HS : Ct 213 #[.int .i64 w, .int .u64 b] (.int .u64 n)) (HR : Ct 212 #[.int .i64 w, .int .u64 a, .int .u64 n, .func (.func 214) #[] #[], .func (.func 215) #[] #[]] (.int .u64 v)) : Ct 138 #[.int .i64 w, .int .u64 a, .int .u64 b] (.int .u64 v) := by
  refine hide (fun W => ?_)
  have HB := hide (Below.refl W.heap.size W)
  go_enter Tryz.func138, Tryz.ntmps138
  go_wp2_with fail
  refine (unhide HS _).mono ?_
  rintro _ w1 ⟨rfl, hb⟩
  have HB := hide (bthen (unhide HB) hb)
  clear hb
  go_wp2_with fail
  refine (unhide HR _).mono ?_
  rintro _ w2 ⟨rfl, hb⟩
  have HB := hide (bthen (unhide HB) hb)
  clear hb
  go_wp2_with fail
  go_ret
  exact ⟨rfl, unhide HB⟩
set_option maxHeartbeats 4000000 in
set_option maxRecDepth 100000 in
theorem shr_m {w a b n v : Int} (HS : Ct 213 #[.int .i64 w, .int .u64 b] (.int .u64 n)) (HR : Ct 212 #[.int .i64 w, .int .u64 a, .int .u64 n, .func (.func 219) #[] #[], .func (.func 220) #[] #[]] (.int .u64 v)) : Ct 140 #[.int .i64 w, .int .u64 a, .int .u64 b] (.int .u64 v) := by
  refine hide (fun W => ?_)
  have HB := hide (Below.refl W.heap.size W)
  go_enter Tryz.func140, Tryz.ntmps140
  go_wp2_with fail
  refine (unhide HS _).mono ?_
  rintro _ w1 ⟨rfl, hb⟩
  have HB := hide (bthen (unhide HB) hb)
  clear hb
  go_wp2_with fail
  refine (unhide HR _).mono ?_
  rintro _ w2 ⟨rfl, hb⟩
  have HB := hide (bthen (unhide HB) hb)
  clear hb
  go_wp2_with fail
  go_ret
  exact ⟨rfl, unhide HB⟩
set_option maxHeartbeats 4000000 in
set_option maxRecDepth 100000 in
theorem sar_m {w a b n v z : Int} (HS : Ct 213 #[.int .i64 w, .int .u64 b] (.int .u64 n)) (HR : Ct 216 #[.int .i64 w, .int .u64 a, .int .u64 n, .func (.func 217) #[] #[], .func (.func 218) #[] #[]] (.int .u64 v)) (HC : Ct 17 #[.int .i64 w, .int .u64 v] (.int .u64 z)) : Ct 139 #[.int .i64 w, .int .u64 a, .int .u64 b] (.int .u64 z) := by
  refine hide (fun W => ?_)
  have HB := hide (Below.refl W.heap.size W)
  go_enter Tryz.func139, Tryz.ntmps139
  go_wp2_with fail
  refine (unhide HS _).mono ?_
  rintro _ w1 ⟨rfl, hb⟩
  have HB := hide (bthen (unhide HB) hb)
  clear hb
  go_wp2_with fail
  refine (unhide HR _).mono ?_
  rintro _ w2 ⟨rfl, hb⟩
  have HB := hide (bthen (unhide HB) hb)
  clear hb
  go_wp2_with fail
  refine (unhide HC _).mono ?_
  rintro _ w3 ⟨rfl, hb⟩
  have HB := hide (bthen (unhide HB) hb)
  clear hb
  go_wp2_with fail
  go_ret
  exact ⟨rfl, unhide HB⟩
set_option maxHeartbeats 4000000 in
set_option maxRecDepth 100000 in
theorem rotl_m {w a b m x y z : Int} (HL : Ct 138 #[.int .i64 w, .int .u64 a, .int .u64 b] (.int .u64 x)) (hm : IntKind.u64.wrap (-b) = m) (HR : Ct 140 #[.int .i64 w, .int .u64 a, .int .u64 m] (.int .u64 y)) (hz : bits .or .u64 x y = z) : Ct 141 #[.int .i64 w, .int .u64 a, .int .u64 b] (.int .u64 z) := by
  refine hide (fun W => ?_)
  have HB := hide (Below.refl W.heap.size W)
  go_enter Tryz.func141, Tryz.ntmps141
  go_wp2_with fail
  refine (unhide HL _).mono ?_
  rintro _ w1 ⟨rfl, hb⟩
  have HB := hide (bthen (unhide HB) hb)
  clear hb
  go_wp2_with fail
  refine (unhide HR _).mono ?_
  rintro _ w2 ⟨rfl, hb⟩
  have HB := hide (bthen (unhide HB) hb)
  clear hb
  go_wp2_with fail
  go_ret
  exact ⟨rfl, unhide HB⟩
set_option maxHeartbeats 4000000 in
set_option maxRecDepth 100000 in
theorem rotr_m {w a b m z : Int} (hm : IntKind.u64.wrap (-b) = m) (HR : Ct 141 #[.int .i64 w, .int .u64 a, .int .u64 m] (.int .u64 z)) : Ct 142 #[.int .i64 w, .int .u64 a, .int .u64 b] (.int .u64 z) := by
  refine hide (fun W => ?_)
  have HB := hide (Below.refl W.heap.size W)
  go_enter Tryz.func142, Tryz.ntmps142
  go_wp2_with fail
  refine (unhide HR _).mono ?_
  rintro _ w1 ⟨rfl, hb⟩
  have HB := hide (bthen (unhide HB) hb)
  clear hb
  go_wp2_with fail
  go_ret
  exact ⟨rfl, unhide HB⟩
set_option maxHeartbeats 4000000 in
set_option maxRecDepth 100000 in
theorem pop_m {w a c p r : Int} (HC : Ct 17 #[.int .i64 w, .int .u64 a] (.int .u64 c)) (HP : Ct 224 #[.int .u64 c] (.int .i64 p)) (hr : IntKind.u64.wrap p = r) : Ct 145 #[.int .i64 w, .int .u64 a] (.int .u64 r) := by
  refine hide (fun W => ?_)
  have HB := hide (Below.refl W.heap.size W)
  go_enter Tryz.func145, Tryz.ntmps145
  go_wp2_with fail
  refine (unhide HC _).mono ?_
  rintro _ w1 ⟨rfl, hb⟩
  have HB := hide (bthen (unhide HB) hb)
  clear hb
  go_wp2_with fail
  refine (unhide HP _).mono ?_
  rintro _ w2 ⟨rfl, hb⟩
  have HB := hide (bthen (unhide HB) hb)
  clear hb
  go_wp2_with fail
  go_ret
  exact ⟨rfl, unhide HB⟩
set_option maxHeartbeats 4000000 in
set_option maxRecDepth 100000 in
theorem dividedU_m {w a b q r t : Int} (HF : Ct 209 #[.int .i64 w, .int .u64 a, .int .u64 b, .func (.func 210) #[] #[], .func (.func 211) #[] #[]] (.agg #[.int .u64 q, .int .u64 r, .int .i64 t])) : Ct 137 #[.int .i64 w, .int .u64 a, .int .u64 b] (.agg #[.int .u64 q, .int .u64 r, .int .i64 t]) := by
  refine hide (fun W => ?_)
  go_enter Tryz.func137, Tryz.ntmps137
  go_wp2_with fail
  have HB := hide (below1 W (.cells #[.int .u64 0, .int .u64 0, .int .i64 0] 127))
  have HR : Hid (Room W.heap.size 3 (W.alloc (.cells #[.int .u64 0, .int .u64 0, .int .i64 0] 127))) := by
    intro o ho
    match o, ho with
    | 0, _ | 1, _ | 2, _ => simp [go_sem]
  refine (unhide HF _).mono ?_
  rintro _ w1 ⟨rfl, hb⟩
  have HB := hide (bthen (unhide HB) hb)
  have HR := hide ((unhide HR).below hb)
  clear hb
  obtain ⟨⟨v0, c0⟩, f0⟩ := (unhide HR) 0 (by omega)
  obtain ⟨⟨v1, c1⟩, f1⟩ := (unhide HR) 1 (by omega)
  obtain ⟨⟨v2, c2⟩, f2⟩ := (unhide HR) 2 (by omega)
  have zy := lt_of_cell c0
  go_wp2
  exact bodyPost_ret (v := .agg #[.int .u64 q, .int .u64 r, .int .i64 t]) (by simp (maxDischargeDepth := 8) [results, Tryz.results137, go_sem, c0, c1, c2]) rfl ⟨rfl, bset (bset (bset (unhide HB) _ (Nat.le_refl _) _ _) _ (Nat.le_refl _) _ _) _ (Nat.le_refl _) _ _⟩
set_option maxHeartbeats 4000000 in
set_option maxRecDepth 100000 in
theorem dividedS_m {w a b q r t : Int} (HF : Ct 206 #[.int .i64 w, .int .u64 a, .int .u64 b, .func (.func 207) #[] #[], .func (.func 208) #[] #[]] (.agg #[.int .u64 q, .int .u64 r, .int .i64 t])) : Ct 136 #[.int .i64 w, .int .u64 a, .int .u64 b] (.agg #[.int .u64 q, .int .u64 r, .int .i64 t]) := by
  refine hide (fun W => ?_)
  go_enter Tryz.func136, Tryz.ntmps136
  go_wp2_with fail
  have HB := hide (below1 W (.cells #[.int .u64 0, .int .u64 0, .int .i64 0] 127))
  have HR : Hid (Room W.heap.size 3 (W.alloc (.cells #[.int .u64 0, .int .u64 0, .int .i64 0] 127))) := by
    intro o ho
    match o, ho with
    | 0, _ | 1, _ | 2, _ => simp [go_sem]
  refine (unhide HF _).mono ?_
  rintro _ w1 ⟨rfl, hb⟩
  have HB := hide (bthen (unhide HB) hb)
  have HR := hide ((unhide HR).below hb)
  clear hb
  obtain ⟨⟨v0, c0⟩, f0⟩ := (unhide HR) 0 (by omega)
  obtain ⟨⟨v1, c1⟩, f1⟩ := (unhide HR) 1 (by omega)
  obtain ⟨⟨v2, c2⟩, f2⟩ := (unhide HR) 2 (by omega)
  have zy := lt_of_cell c0
  go_wp2
  exact bodyPost_ret (v := .agg #[.int .u64 q, .int .u64 r, .int .i64 t]) (by simp (maxDischargeDepth := 8) [results, Tryz.results136, go_sem, c0, c1, c2]) rfl ⟨rfl, bset (bset (bset (unhide HB) _ (Nat.le_refl _) _ _) _ (Nat.le_refl _) _ _) _ (Nat.le_refl _) _ _⟩
set_option maxHeartbeats 4000000 in
set_option maxRecDepth 100000 in
theorem divu_m {w a b q r t : Int} (HD : Ct 137 #[.int .i64 w, .int .u64 a, .int .u64 b] (.agg #[.int .u64 q, .int .u64 r, .int .i64 t]))  : Ct 73 #[.int .i64 w, .int .u64 a, .int .u64 b] (.tuple #[.int .u64 q, .int .i64 t]) := by
  refine hide (fun W => ?_)
  go_enter Tryz.func73, Tryz.ntmps73
  go_wp2_with fail
  refine (unhide HD _).mono ?_
  rintro _ w1 ⟨rfl, hb⟩
  have HB := hide (balloc hb (.cells #[.int .u64 q, .int .u64 r, .int .i64 t] 127))
  have HA := hide (at3_new w1 (.int .u64 q) (.int .u64 r) (.int .i64 t) 127)
  clear hb
  go_wp2_with fail
  have HB := hide ((unhide HB).drew)
  have HA := hide ((unhide HA).below ((Below.refl _ _).drew))
  refine wp_region_held_drew (S := fun w' => (w'.cell? ⟨w1.heap.size, 0, none⟩ = some (.int .u64 q) ∧ w'.cell? ⟨w1.heap.size, 1, none⟩ = some (.int .u64 r) ∧ w'.cell? ⟨w1.heap.size, 2, none⟩ = some (.int .i64 t))) (by kernel_rfl) ?_ (fun hHeld => ?_)
  · (try dsimp only)
    exact unhide HA
  refine lst0 6 (by kernel_rfl) ?_
  refine tkA 0 13 1 ?_
  refine tkA 1 14 3 ?_
  refine tkA 2 15 7 ?_
  refine tkA 3 16 15 ?_
  refine tkA 4 6 31 ?_
  refine tkA 5 7 63 ?_
  refine wpAnyH_done (by kernel_rfl) ?_ _
  clear hHeld
  go_wp2_with fail
  go_ret2
  exact ⟨rfl, unhide HB⟩
set_option maxHeartbeats 4000000 in
set_option maxRecDepth 100000 in
theorem remu_m {w a b q r t : Int} (HD : Ct 137 #[.int .i64 w, .int .u64 a, .int .u64 b] (.agg #[.int .u64 q, .int .u64 r, .int .i64 t]))  : Ct 75 #[.int .i64 w, .int .u64 a, .int .u64 b] (.tuple #[.int .u64 r, .int .i64 t]) := by
  refine hide (fun W => ?_)
  go_enter Tryz.func75, Tryz.ntmps75
  go_wp2_with fail
  refine (unhide HD _).mono ?_
  rintro _ w1 ⟨rfl, hb⟩
  have HB := hide (balloc hb (.cells #[.int .u64 q, .int .u64 r, .int .i64 t] 127))
  have HA := hide (at3_new w1 (.int .u64 q) (.int .u64 r) (.int .i64 t) 127)
  clear hb
  go_wp2_with fail
  have HB := hide ((unhide HB).drew)
  have HA := hide ((unhide HA).below ((Below.refl _ _).drew))
  refine wp_region_held_drew (S := fun w' => (w'.cell? ⟨w1.heap.size, 0, none⟩ = some (.int .u64 q) ∧ w'.cell? ⟨w1.heap.size, 1, none⟩ = some (.int .u64 r) ∧ w'.cell? ⟨w1.heap.size, 2, none⟩ = some (.int .i64 t))) (by kernel_rfl) ?_ (fun hHeld => ?_)
  · (try dsimp only)
    exact unhide HA
  refine lst0 6 (by kernel_rfl) ?_
  refine tkA 0 13 1 ?_
  refine tkA 1 14 3 ?_
  refine tkA 2 15 7 ?_
  refine tkA 3 16 15 ?_
  refine tkA 4 6 31 ?_
  refine tkA 5 7 63 ?_
  refine wpAnyH_done (by kernel_rfl) ?_ _
  clear hHeld
  go_wp2_with fail
  go_ret2
  exact ⟨rfl, unhide HB⟩
set_option maxHeartbeats 4000000 in
set_option maxRecDepth 100000 in
theorem divs_m {w a b q r t z : Int} (HD : Ct 136 #[.int .i64 w, .int .u64 a, .int .u64 b] (.agg #[.int .u64 q, .int .u64 r, .int .i64 t])) (HC : Ct 17 #[.int .i64 w, .int .u64 q] (.int .u64 z)) : Ct 72 #[.int .i64 w, .int .u64 a, .int .u64 b] (.tuple #[.int .u64 z, .int .i64 t]) := by
  refine hide (fun W => ?_)
  go_enter Tryz.func72, Tryz.ntmps72
  go_wp2_with fail
  refine (unhide HD _).mono ?_
  rintro _ w1 ⟨rfl, hb⟩
  have HB := hide (balloc hb (.cells #[.int .u64 q, .int .u64 r, .int .i64 t] 127))
  have HA := hide (at3_new w1 (.int .u64 q) (.int .u64 r) (.int .i64 t) 127)
  clear hb
  go_wp2_with fail
  have HB := hide ((unhide HB).drew)
  have HA := hide ((unhide HA).below ((Below.refl _ _).drew))
  refine wp_region_held_drew (S := fun w' => (w'.cell? ⟨w1.heap.size, 0, none⟩ = some (.int .u64 q) ∧ w'.cell? ⟨w1.heap.size, 1, none⟩ = some (.int .u64 r) ∧ w'.cell? ⟨w1.heap.size, 2, none⟩ = some (.int .i64 t))) (by kernel_rfl) ?_ (fun hHeld => ?_)
  · (try dsimp only)
    exact unhide HA
  refine lst0 8 (by kernel_rfl) ?_
  refine tkA 0 13 1 ?_
  refine tkA 1 14 3 ?_
  refine tkA 2 15 7 ?_
  refine tkA 4 17 23 ?_
  refine tkA 5 18 55 ?_
  refine rdA 3 63 (fun Kk hKk => ?_)
  go_simp
  refine (unhide HC _).mono ?_
  rintro _ w2 ⟨rfl, hb⟩
  have HB := hide (bthen (unhide HB) hb)
  have HA := hide ((unhide HA).below hb)
  clear hb
  (try go_wp2_with fail)
  refine hKk.out _ _ ?_ (fun hHeld => ?_)
  · (try dsimp only)
    exact unhide HA
  clear hKk Kk
  (try simp only [List.setIfInBounds_toArray, List.set_cons_zero, List.set_cons_succ])
  refine tkA 6 6 127 ?_
  refine tkA 7 7 255 ?_
  refine wpAnyH_done (by kernel_rfl) ?_ _
  clear hHeld
  go_wp2_with fail
  go_ret2
  exact ⟨rfl, unhide HB⟩
set_option maxHeartbeats 4000000 in
set_option maxRecDepth 100000 in
theorem rems_m {w a b q r t z : Int} (HD : Ct 136 #[.int .i64 w, .int .u64 a, .int .u64 b] (.agg #[.int .u64 q, .int .u64 r, .int .i64 t])) (HC : Ct 17 #[.int .i64 w, .int .u64 r] (.int .u64 z)) (g : (t == 3) = false) : Ct 74 #[.int .i64 w, .int .u64 a, .int .u64 b] (.tuple #[.int .u64 z, .int .i64 t]) := by
  refine hide (fun W => ?_)
  go_enter Tryz.func74, Tryz.ntmps74
  go_wp2_with fail
  refine (unhide HD _).mono ?_
  rintro _ w1 ⟨rfl, hb⟩
  have HB := hide (balloc hb (.cells #[.int .u64 q, .int .u64 r, .int .i64 t] 127))
  have HA := hide (at3_new w1 (.int .u64 q) (.int .u64 r) (.int .i64 t) 127)
  clear hb
  obtain ⟨c0, c1, c2⟩ := unhide HA
  go_wp2_with fail
  clear c0 c1 c2
  have HB := hide ((unhide HB).drew)
  have HA := hide ((unhide HA).below ((Below.refl _ _).drew))
  refine wp_region_held_drew (S := fun w' => (w'.cell? ⟨w1.heap.size, 0, none⟩ = some (.int .u64 q) ∧ w'.cell? ⟨w1.heap.size, 1, none⟩ = some (.int .u64 r) ∧ w'.cell? ⟨w1.heap.size, 2, none⟩ = some (.int .i64 t))) (by kernel_rfl) ?_ (fun hHeld => ?_)
  · (try dsimp only)
    exact unhide HA
  refine lst0 8 (by kernel_rfl) ?_
  refine tkA 0 16 1 ?_
  refine tkA 1 17 3 ?_
  refine tkA 2 18 7 ?_
  refine tkA 4 20 23 ?_
  refine tkA 5 21 55 ?_
  refine rdA 3 63 (fun Kk hKk => ?_)
  go_simp
  refine (unhide HC _).mono ?_
  rintro _ w2 ⟨rfl, hb⟩
  have HB := hide (bthen (unhide HB) hb)
  have HA := hide ((unhide HA).below hb)
  clear hb
  (try go_wp2_with fail)
  refine hKk.out _ _ ?_ (fun hHeld => ?_)
  · (try dsimp only)
    exact unhide HA
  clear hKk Kk
  (try simp only [List.setIfInBounds_toArray, List.set_cons_zero, List.set_cons_succ])
  refine tkA 6 6 127 ?_
  refine tkA 7 7 255 ?_
  refine wpAnyH_done (by kernel_rfl) ?_ _
  clear hHeld
  go_wp2_with fail
  go_ret2
  exact ⟨rfl, unhide HB⟩
set_option maxHeartbeats 4000000 in
set_option maxRecDepth 100000 in
theorem rems_o {w a b q r : Int} (HD : Ct 136 #[.int .i64 w, .int .u64 a, .int .u64 b] (.agg #[.int .u64 q, .int .u64 r, .int .i64 3]))  : Ct 74 #[.int .i64 w, .int .u64 a, .int .u64 b] (.tuple #[.int .u64 0, .int .i64 0]) := by
  refine hide (fun W => ?_)
  go_enter Tryz.func74, Tryz.ntmps74
  go_wp2_with fail
  refine (unhide HD _).mono ?_
  rintro _ w1 ⟨rfl, hb⟩
  have HB := hide (balloc hb (.cells #[.int .u64 q, .int .u64 r, .int .i64 3] 127))
  have HA := hide (at3_new w1 (.int .u64 q) (.int .u64 r) (.int .i64 3) 127)
  clear hb
  obtain ⟨c0, c1, c2⟩ := unhide HA
  go_wp2_with fail
  go_ret2
  exact ⟨rfl, unhide HB⟩
set_option maxHeartbeats 4000000 in
set_option maxRecDepth 100000 in
theorem lts_m {w a b : Int} {v : Bool} (HR : Ct 123 #[.int .i64 w, .int .u64 a, .int .u64 b, .func (.func 124) #[] #[], .func (.func 125) #[] #[]] (.bool v)) : Ct 64 #[.int .i64 w, .int .u64 a, .int .u64 b] (.bool v) := by
  refine hide (fun W => ?_)
  have HB := hide (Below.refl W.heap.size W)
  go_enter Tryz.func64, Tryz.ntmps64
  go_wp2_with fail
  refine (unhide HR _).mono ?_
  rintro _ w1 ⟨rfl, hb⟩
  have HB := hide (bthen (unhide HB) hb)
  clear hb
  go_wp2_with fail
  go_ret
  exact ⟨rfl, unhide HB⟩
end Go.Proofs.YtpbgpdmffejdgaaGreatDoor
namespace Go.Proofs.YtpbgpdmffejdgaaGreatDoor
open Go.RowKit
open Go.Proofs.YtpbgpdmffejdgaaGreatDoor.W

theorem at2_mk (w : World) (x y : Value) (t : TypeId) : At2 w.heap.size x y (w.alloc (.cells #[x, y] t)).drew := by unfold At2; simp [go_sem]
set_option maxHeartbeats 4000000 in
set_option maxRecDepth 100000 in
theorem chopped_nan_t {w k x X S L h : Int} {s : Bool} (W : World) (HK : Ct 245 #[.int .i64 k] (.bool true)) (HO : Ct 15 #[.int .i64 w, .int .u64 x] (.agg #[.bool true, .int .i64 3, .int .i64 X, .int .u64 S])) (HE : Ct 246 #[.int .i64 k, .bool s] (.tuple #[.int .u64 L, .int .u64 h])) :
    Calls Tryz.prog 168 #[.int .i64 w, .int .i64 k, .int .u64 x, .bool s] W fun r W' => r = .returned (.tuple #[.int .u64 0, .int .i64 4]) ∧ Below W.heap.size W W' := by
  have HB := hide (Below.refl W.heap.size W)
  go_enter Tryz.func168, Tryz.ntmps168
  go_wp2_with fail
  refine (unhide HK _).mono ?_
  rintro _ w1 ⟨rfl, hb⟩
  have HB := hide (bthen (unhide HB) hb)
  clear hb
  go_wp2_with fail
  refine (unhide HO _).mono ?_
  rintro _ w2 ⟨rfl, hb⟩
  have HB := hide (balloc (bthen (unhide HB) hb) (.cells #[.bool true, .int .i64 3, .int .i64 X, .int .u64 S] 37))
  have HA := hide (at4_new w2 (.bool true) (.int .i64 3) (.int .i64 X) (.int .u64 S) 37)
  clear hb
  go_wp2_with fail
  refine (unhide HE _).mono ?_
  rintro _ w3 ⟨rfl, hb⟩
  have HB := hide (bthen (unhide HB) hb)
  have HA := hide ((unhide HA).below hb)
  clear hb
  obtain ⟨c0, c1, c2, c3⟩ := unhide HA
  go_wp2_with fail
  go_ret2
  exact ⟨rfl, unhide HB⟩
set_option maxHeartbeats 4000000 in
set_option maxRecDepth 100000 in
theorem chopped_inf_t {w k x X S L h : Int} {s : Bool} (W : World) (HK : Ct 245 #[.int .i64 k] (.bool true)) (HO : Ct 15 #[.int .i64 w, .int .u64 x] (.agg #[.bool true, .int .i64 2, .int .i64 X, .int .u64 S])) (HE : Ct 246 #[.int .i64 k, .bool s] (.tuple #[.int .u64 L, .int .u64 h])) :
    Calls Tryz.prog 168 #[.int .i64 w, .int .i64 k, .int .u64 x, .bool s] W fun r W' => r = .returned (.tuple #[.int .u64 L, .int .i64 3]) ∧ Below W.heap.size W W' := by
  have HB := hide (Below.refl W.heap.size W)
  go_enter Tryz.func168, Tryz.ntmps168
  go_wp2_with fail
  refine (unhide HK _).mono ?_
  rintro _ w1 ⟨rfl, hb⟩
  have HB := hide (bthen (unhide HB) hb)
  clear hb
  go_wp2_with fail
  refine (unhide HO _).mono ?_
  rintro _ w2 ⟨rfl, hb⟩
  have HB := hide (balloc (bthen (unhide HB) hb) (.cells #[.bool true, .int .i64 2, .int .i64 X, .int .u64 S] 37))
  have HA := hide (at4_new w2 (.bool true) (.int .i64 2) (.int .i64 X) (.int .u64 S) 37)
  clear hb
  go_wp2_with fail
  refine (unhide HE _).mono ?_
  rintro _ w3 ⟨rfl, hb⟩
  have HB := hide (bthen (unhide HB) hb)
  have HA := hide ((unhide HA).below hb)
  clear hb
  obtain ⟨c0, c1, c2, c3⟩ := unhide HA
  go_wp2_with fail
  go_ret2
  exact ⟨rfl, unhide HB⟩
set_option maxHeartbeats 4000000 in
set_option maxRecDepth 100000 in
theorem chopped_le_t {w k x X S L h a1 a0 e1 e0 c V : Int} {s : Bool} (W : World) (HK : Ct 245 #[.int .i64 k] (.bool true)) (HO : Ct 15 #[.int .i64 w, .int .u64 x] (.agg #[.bool true, .int .i64 1, .int .i64 X, .int .u64 S])) (HE : Ct 246 #[.int .i64 k, .bool s] (.tuple #[.int .u64 L, .int .u64 h])) (HM : Ct 247 #[.agg #[.bool true, .int .i64 1, .int .i64 X, .int .u64 S]] (.agg #[.int .u64 a1, .int .u64 a0])) (HF : Ct 161 #[.int .u64 L] (.agg #[.int .u64 e1, .int .u64 e0])) (HC : Ct 235 #[.agg #[.int .u64 a1, .int .u64 a0], .agg #[.int .u64 e1, .int .u64 e0]] (.int .i64 c)) (g : c ≤ 0) (HS : Ct 248 #[.int .i64 k, .bool true, .int .u64 a0] (.int .u64 V)) :
    Calls Tryz.prog 168 #[.int .i64 w, .int .i64 k, .int .u64 x, .bool s] W fun r W' => r = .returned (.tuple #[.int .u64 V, .int .i64 0]) ∧ Below W.heap.size W W' := by
  have HB := hide (Below.refl W.heap.size W)
  go_enter Tryz.func168, Tryz.ntmps168
  go_wp2_with fail
  refine (unhide HK _).mono ?_
  rintro _ w1 ⟨rfl, hb⟩
  have HB := hide (bthen (unhide HB) hb)
  clear hb
  go_wp2_with fail
  refine (unhide HO _).mono ?_
  rintro _ w2 ⟨rfl, hb⟩
  have HB := hide (balloc (bthen (unhide HB) hb) (.cells #[.bool true, .int .i64 1, .int .i64 X, .int .u64 S] 37))
  have HA := hide (at4_new w2 (.bool true) (.int .i64 1) (.int .i64 X) (.int .u64 S) 37)
  clear hb
  go_wp2_with fail
  refine (unhide HE _).mono ?_
  rintro _ w3 ⟨rfl, hb⟩
  have HB := hide (bthen (unhide HB) hb)
  have HA := hide ((unhide HA).below hb)
  clear hb
  obtain ⟨c0, c1, c2, c3⟩ := unhide HA
  go_wp2_with fail
  clear c0 c1 c2 c3
  refine (unhide HM _).mono ?_
  rintro _ w4 ⟨rfl, hb⟩
  have HB := hide (bthen (unhide HB) hb)
  have HA := hide ((unhide HA).below hb)
  clear hb
  have HB := hide (balloc (unhide HB) (.cells #[.int .u64 a1, .int .u64 a0] 135)).drew
  have HA := hide ((unhide HA).below (below1 w4 (.cells #[.int .u64 a1, .int .u64 a0] 135)).drew)
  have H2 := hide (at2_mk w4 (.int .u64 a1) (.int .u64 a0) 135)
  go_wp2_with fail
  refine wp_region_held_drew (S := fun w' => (w'.cell? ⟨w4.heap.size, 0, none⟩ = some (.int .u64 a1) ∧ w'.cell? ⟨w4.heap.size, 1, none⟩ = some (.int .u64 a0))) (by kernel_rfl) ?_ (fun hHeld => ?_)
  · (try dsimp only)
    exact unhide H2
  refine lst0 5 (by kernel_rfl) ?_
  refine tkA 0 39 1 ?_
  refine tkA 1 40 3 ?_
  refine rdA 2 7 (fun Kk hKk => ?_)
  go_simp
  refine (unhide HF _).mono ?_
  rintro _ w5 ⟨rfl, hb⟩
  have HB := hide (bthen (unhide HB) hb)
  have HA := hide ((unhide HA).below hb)
  have H2 := hide ((unhide H2).below hb)
  clear hb
  (try go_wp2_with fail)
  refine hKk.out _ _ ?_ (fun hHeld => ?_)
  · (try dsimp only)
    exact unhide H2
  clear hKk Kk
  (try simp only [List.setIfInBounds_toArray, List.set_cons_zero, List.set_cons_succ])
  refine rdA 3 15 (fun Kk hKk => ?_)
  go_simp
  refine (unhide HC _).mono ?_
  rintro _ w6 ⟨rfl, hb⟩
  have HB := hide (bthen (unhide HB) hb)
  have HA := hide ((unhide HA).below hb)
  have H2 := hide ((unhide H2).below hb)
  clear hb
  (try go_wp2_with fail)
  refine hKk.out _ _ ?_ (fun hHeld => ?_)
  · (try dsimp only)
    exact unhide H2
  clear hKk Kk
  (try simp only [List.setIfInBounds_toArray, List.set_cons_zero, List.set_cons_succ])
  refine tkA 4 43 31 ?_
  refine wpAnyH_done (by kernel_rfl) ?_ _
  clear hHeld
  obtain ⟨c0, c1, c2, c3⟩ := unhide HA
  obtain ⟨d0, d1⟩ := unhide H2
  go_wp2_with fail
  clear c0 c1 c2 c3 d0 d1
  refine (unhide HS _).mono ?_
  rintro _ w7 ⟨rfl, hb⟩
  have HB := hide (bthen (unhide HB) hb)
  clear hb
  go_wp2_with fail
  go_ret2
  exact ⟨rfl, unhide HB⟩
set_option maxHeartbeats 4000000 in
set_option maxRecDepth 100000 in
theorem chopped_gt_t {w k x X S L h a1 a0 e1 e0 c : Int} {s : Bool} (W : World) (HK : Ct 245 #[.int .i64 k] (.bool true)) (HO : Ct 15 #[.int .i64 w, .int .u64 x] (.agg #[.bool true, .int .i64 1, .int .i64 X, .int .u64 S])) (HE : Ct 246 #[.int .i64 k, .bool s] (.tuple #[.int .u64 L, .int .u64 h])) (HM : Ct 247 #[.agg #[.bool true, .int .i64 1, .int .i64 X, .int .u64 S]] (.agg #[.int .u64 a1, .int .u64 a0])) (HF : Ct 161 #[.int .u64 L] (.agg #[.int .u64 e1, .int .u64 e0])) (HC : Ct 235 #[.agg #[.int .u64 a1, .int .u64 a0], .agg #[.int .u64 e1, .int .u64 e0]] (.int .i64 c)) (g : ¬ c ≤ 0) :
    Calls Tryz.prog 168 #[.int .i64 w, .int .i64 k, .int .u64 x, .bool s] W fun r W' => r = .returned (.tuple #[.int .u64 L, .int .i64 3]) ∧ Below W.heap.size W W' := by
  have HB := hide (Below.refl W.heap.size W)
  go_enter Tryz.func168, Tryz.ntmps168
  go_wp2_with fail
  refine (unhide HK _).mono ?_
  rintro _ w1 ⟨rfl, hb⟩
  have HB := hide (bthen (unhide HB) hb)
  clear hb
  go_wp2_with fail
  refine (unhide HO _).mono ?_
  rintro _ w2 ⟨rfl, hb⟩
  have HB := hide (balloc (bthen (unhide HB) hb) (.cells #[.bool true, .int .i64 1, .int .i64 X, .int .u64 S] 37))
  have HA := hide (at4_new w2 (.bool true) (.int .i64 1) (.int .i64 X) (.int .u64 S) 37)
  clear hb
  go_wp2_with fail
  refine (unhide HE _).mono ?_
  rintro _ w3 ⟨rfl, hb⟩
  have HB := hide (bthen (unhide HB) hb)
  have HA := hide ((unhide HA).below hb)
  clear hb
  obtain ⟨c0, c1, c2, c3⟩ := unhide HA
  go_wp2_with fail
  clear c0 c1 c2 c3
  refine (unhide HM _).mono ?_
  rintro _ w4 ⟨rfl, hb⟩
  have HB := hide (bthen (unhide HB) hb)
  have HA := hide ((unhide HA).below hb)
  clear hb
  have HB := hide (balloc (unhide HB) (.cells #[.int .u64 a1, .int .u64 a0] 135)).drew
  have HA := hide ((unhide HA).below (below1 w4 (.cells #[.int .u64 a1, .int .u64 a0] 135)).drew)
  have H2 := hide (at2_mk w4 (.int .u64 a1) (.int .u64 a0) 135)
  go_wp2_with fail
  refine wp_region_held_drew (S := fun w' => (w'.cell? ⟨w4.heap.size, 0, none⟩ = some (.int .u64 a1) ∧ w'.cell? ⟨w4.heap.size, 1, none⟩ = some (.int .u64 a0))) (by kernel_rfl) ?_ (fun hHeld => ?_)
  · (try dsimp only)
    exact unhide H2
  refine lst0 5 (by kernel_rfl) ?_
  refine tkA 0 39 1 ?_
  refine tkA 1 40 3 ?_
  refine rdA 2 7 (fun Kk hKk => ?_)
  go_simp
  refine (unhide HF _).mono ?_
  rintro _ w5 ⟨rfl, hb⟩
  have HB := hide (bthen (unhide HB) hb)
  have HA := hide ((unhide HA).below hb)
  have H2 := hide ((unhide H2).below hb)
  clear hb
  (try go_wp2_with fail)
  refine hKk.out _ _ ?_ (fun hHeld => ?_)
  · (try dsimp only)
    exact unhide H2
  clear hKk Kk
  (try simp only [List.setIfInBounds_toArray, List.set_cons_zero, List.set_cons_succ])
  refine rdA 3 15 (fun Kk hKk => ?_)
  go_simp
  refine (unhide HC _).mono ?_
  rintro _ w6 ⟨rfl, hb⟩
  have HB := hide (bthen (unhide HB) hb)
  have HA := hide ((unhide HA).below hb)
  have H2 := hide ((unhide H2).below hb)
  clear hb
  (try go_wp2_with fail)
  refine hKk.out _ _ ?_ (fun hHeld => ?_)
  · (try dsimp only)
    exact unhide H2
  clear hKk Kk
  (try simp only [List.setIfInBounds_toArray, List.set_cons_zero, List.set_cons_succ])
  refine tkA 4 43 31 ?_
  refine wpAnyH_done (by kernel_rfl) ?_ _
  clear hHeld
  go_wp2_with fail
  go_ret2
  exact ⟨rfl, unhide HB⟩
set_option maxHeartbeats 4000000 in
set_option maxRecDepth 100000 in
theorem chopped_zero_t {w k x X S L h : Int} {s : Bool} (W : World) (HK : Ct 245 #[.int .i64 k] (.bool true)) (HO : Ct 15 #[.int .i64 w, .int .u64 x] (.agg #[.bool true, .int .i64 0, .int .i64 X, .int .u64 S])) (HE : Ct 246 #[.int .i64 k, .bool s] (.tuple #[.int .u64 L, .int .u64 h])) :
    Calls Tryz.prog 168 #[.int .i64 w, .int .i64 k, .int .u64 x, .bool s] W fun r W' => r = .returned (.tuple #[.int .u64 0, .int .i64 0]) ∧ Below W.heap.size W W' := by
  have HB := hide (Below.refl W.heap.size W)
  go_enter Tryz.func168, Tryz.ntmps168
  go_wp2_with fail
  refine (unhide HK _).mono ?_
  rintro _ w1 ⟨rfl, hb⟩
  have HB := hide (bthen (unhide HB) hb)
  clear hb
  go_wp2_with fail
  refine (unhide HO _).mono ?_
  rintro _ w2 ⟨rfl, hb⟩
  have HB := hide (balloc (bthen (unhide HB) hb) (.cells #[.bool true, .int .i64 0, .int .i64 X, .int .u64 S] 37))
  have HA := hide (at4_new w2 (.bool true) (.int .i64 0) (.int .i64 X) (.int .u64 S) 37)
  clear hb
  go_wp2_with fail
  refine (unhide HE _).mono ?_
  rintro _ w3 ⟨rfl, hb⟩
  have HB := hide (bthen (unhide HB) hb)
  have HA := hide ((unhide HA).below hb)
  clear hb
  obtain ⟨c0, c1, c2, c3⟩ := unhide HA
  go_wp2_with fail
  go_ret2
  exact ⟨rfl, unhide HB⟩
set_option maxHeartbeats 4000000 in
set_option maxRecDepth 100000 in
theorem chopped_nan_f {w k x X S L h : Int} {s : Bool} (W : World) (HK : Ct 245 #[.int .i64 k] (.bool true)) (HO : Ct 15 #[.int .i64 w, .int .u64 x] (.agg #[.bool false, .int .i64 3, .int .i64 X, .int .u64 S])) (HE : Ct 246 #[.int .i64 k, .bool s] (.tuple #[.int .u64 L, .int .u64 h])) :
    Calls Tryz.prog 168 #[.int .i64 w, .int .i64 k, .int .u64 x, .bool s] W fun r W' => r = .returned (.tuple #[.int .u64 0, .int .i64 4]) ∧ Below W.heap.size W W' := by
  have HB := hide (Below.refl W.heap.size W)
  go_enter Tryz.func168, Tryz.ntmps168
  go_wp2_with fail
  refine (unhide HK _).mono ?_
  rintro _ w1 ⟨rfl, hb⟩
  have HB := hide (bthen (unhide HB) hb)
  clear hb
  go_wp2_with fail
  refine (unhide HO _).mono ?_
  rintro _ w2 ⟨rfl, hb⟩
  have HB := hide (balloc (bthen (unhide HB) hb) (.cells #[.bool false, .int .i64 3, .int .i64 X, .int .u64 S] 37))
  have HA := hide (at4_new w2 (.bool false) (.int .i64 3) (.int .i64 X) (.int .u64 S) 37)
  clear hb
  go_wp2_with fail
  refine (unhide HE _).mono ?_
  rintro _ w3 ⟨rfl, hb⟩
  have HB := hide (bthen (unhide HB) hb)
  have HA := hide ((unhide HA).below hb)
  clear hb
  obtain ⟨c0, c1, c2, c3⟩ := unhide HA
  go_wp2_with fail
  go_ret2
  exact ⟨rfl, unhide HB⟩
set_option maxHeartbeats 4000000 in
set_option maxRecDepth 100000 in
theorem chopped_inf_f {w k x X S L h : Int} {s : Bool} (W : World) (HK : Ct 245 #[.int .i64 k] (.bool true)) (HO : Ct 15 #[.int .i64 w, .int .u64 x] (.agg #[.bool false, .int .i64 2, .int .i64 X, .int .u64 S])) (HE : Ct 246 #[.int .i64 k, .bool s] (.tuple #[.int .u64 L, .int .u64 h])) :
    Calls Tryz.prog 168 #[.int .i64 w, .int .i64 k, .int .u64 x, .bool s] W fun r W' => r = .returned (.tuple #[.int .u64 h, .int .i64 3]) ∧ Below W.heap.size W W' := by
  have HB := hide (Below.refl W.heap.size W)
  go_enter Tryz.func168, Tryz.ntmps168
  go_wp2_with fail
  refine (unhide HK _).mono ?_
  rintro _ w1 ⟨rfl, hb⟩
  have HB := hide (bthen (unhide HB) hb)
  clear hb
  go_wp2_with fail
  refine (unhide HO _).mono ?_
  rintro _ w2 ⟨rfl, hb⟩
  have HB := hide (balloc (bthen (unhide HB) hb) (.cells #[.bool false, .int .i64 2, .int .i64 X, .int .u64 S] 37))
  have HA := hide (at4_new w2 (.bool false) (.int .i64 2) (.int .i64 X) (.int .u64 S) 37)
  clear hb
  go_wp2_with fail
  refine (unhide HE _).mono ?_
  rintro _ w3 ⟨rfl, hb⟩
  have HB := hide (bthen (unhide HB) hb)
  have HA := hide ((unhide HA).below hb)
  clear hb
  obtain ⟨c0, c1, c2, c3⟩ := unhide HA
  go_wp2_with fail
  go_ret2
  exact ⟨rfl, unhide HB⟩
set_option maxHeartbeats 4000000 in
set_option maxRecDepth 100000 in
theorem chopped_le_f {w k x X S L h a1 a0 e1 e0 c V : Int} {s : Bool} (W : World) (HK : Ct 245 #[.int .i64 k] (.bool true)) (HO : Ct 15 #[.int .i64 w, .int .u64 x] (.agg #[.bool false, .int .i64 1, .int .i64 X, .int .u64 S])) (HE : Ct 246 #[.int .i64 k, .bool s] (.tuple #[.int .u64 L, .int .u64 h])) (HM : Ct 247 #[.agg #[.bool false, .int .i64 1, .int .i64 X, .int .u64 S]] (.agg #[.int .u64 a1, .int .u64 a0])) (HF : Ct 161 #[.int .u64 h] (.agg #[.int .u64 e1, .int .u64 e0])) (HC : Ct 235 #[.agg #[.int .u64 a1, .int .u64 a0], .agg #[.int .u64 e1, .int .u64 e0]] (.int .i64 c)) (g : c ≤ 0) (HS : Ct 248 #[.int .i64 k, .bool false, .int .u64 a0] (.int .u64 V)) :
    Calls Tryz.prog 168 #[.int .i64 w, .int .i64 k, .int .u64 x, .bool s] W fun r W' => r = .returned (.tuple #[.int .u64 V, .int .i64 0]) ∧ Below W.heap.size W W' := by
  have HB := hide (Below.refl W.heap.size W)
  go_enter Tryz.func168, Tryz.ntmps168
  go_wp2_with fail
  refine (unhide HK _).mono ?_
  rintro _ w1 ⟨rfl, hb⟩
  have HB := hide (bthen (unhide HB) hb)
  clear hb
  go_wp2_with fail
  refine (unhide HO _).mono ?_
  rintro _ w2 ⟨rfl, hb⟩
  have HB := hide (balloc (bthen (unhide HB) hb) (.cells #[.bool false, .int .i64 1, .int .i64 X, .int .u64 S] 37))
  have HA := hide (at4_new w2 (.bool false) (.int .i64 1) (.int .i64 X) (.int .u64 S) 37)
  clear hb
  go_wp2_with fail
  refine (unhide HE _).mono ?_
  rintro _ w3 ⟨rfl, hb⟩
  have HB := hide (bthen (unhide HB) hb)
  have HA := hide ((unhide HA).below hb)
  clear hb
  obtain ⟨c0, c1, c2, c3⟩ := unhide HA
  go_wp2_with fail
  clear c0 c1 c2 c3
  refine (unhide HM _).mono ?_
  rintro _ w4 ⟨rfl, hb⟩
  have HB := hide (bthen (unhide HB) hb)
  have HA := hide ((unhide HA).below hb)
  clear hb
  have HB := hide (balloc (unhide HB) (.cells #[.int .u64 a1, .int .u64 a0] 135)).drew
  have HA := hide ((unhide HA).below (below1 w4 (.cells #[.int .u64 a1, .int .u64 a0] 135)).drew)
  have H2 := hide (at2_mk w4 (.int .u64 a1) (.int .u64 a0) 135)
  go_wp2_with fail
  refine wp_region_held_drew (S := fun w' => (w'.cell? ⟨w4.heap.size, 0, none⟩ = some (.int .u64 a1) ∧ w'.cell? ⟨w4.heap.size, 1, none⟩ = some (.int .u64 a0))) (by kernel_rfl) ?_ (fun hHeld => ?_)
  · (try dsimp only)
    exact unhide H2
  refine lst0 5 (by kernel_rfl) ?_
  refine tkA 0 39 1 ?_
  refine tkA 1 40 3 ?_
  refine rdA 2 7 (fun Kk hKk => ?_)
  go_simp
  refine (unhide HF _).mono ?_
  rintro _ w5 ⟨rfl, hb⟩
  have HB := hide (bthen (unhide HB) hb)
  have HA := hide ((unhide HA).below hb)
  have H2 := hide ((unhide H2).below hb)
  clear hb
  (try go_wp2_with fail)
  refine hKk.out _ _ ?_ (fun hHeld => ?_)
  · (try dsimp only)
    exact unhide H2
  clear hKk Kk
  (try simp only [List.setIfInBounds_toArray, List.set_cons_zero, List.set_cons_succ])
  refine rdA 3 15 (fun Kk hKk => ?_)
  go_simp
  refine (unhide HC _).mono ?_
  rintro _ w6 ⟨rfl, hb⟩
  have HB := hide (bthen (unhide HB) hb)
  have HA := hide ((unhide HA).below hb)
  have H2 := hide ((unhide H2).below hb)
  clear hb
  (try go_wp2_with fail)
  refine hKk.out _ _ ?_ (fun hHeld => ?_)
  · (try dsimp only)
    exact unhide H2
  clear hKk Kk
  (try simp only [List.setIfInBounds_toArray, List.set_cons_zero, List.set_cons_succ])
  refine tkA 4 43 31 ?_
  refine wpAnyH_done (by kernel_rfl) ?_ _
  clear hHeld
  obtain ⟨c0, c1, c2, c3⟩ := unhide HA
  obtain ⟨d0, d1⟩ := unhide H2
  go_wp2_with fail
  clear c0 c1 c2 c3 d0 d1
  refine (unhide HS _).mono ?_
  rintro _ w7 ⟨rfl, hb⟩
  have HB := hide (bthen (unhide HB) hb)
  clear hb
  go_wp2_with fail
  go_ret2
  exact ⟨rfl, unhide HB⟩
set_option maxHeartbeats 4000000 in
set_option maxRecDepth 100000 in
theorem chopped_gt_f {w k x X S L h a1 a0 e1 e0 c : Int} {s : Bool} (W : World) (HK : Ct 245 #[.int .i64 k] (.bool true)) (HO : Ct 15 #[.int .i64 w, .int .u64 x] (.agg #[.bool false, .int .i64 1, .int .i64 X, .int .u64 S])) (HE : Ct 246 #[.int .i64 k, .bool s] (.tuple #[.int .u64 L, .int .u64 h])) (HM : Ct 247 #[.agg #[.bool false, .int .i64 1, .int .i64 X, .int .u64 S]] (.agg #[.int .u64 a1, .int .u64 a0])) (HF : Ct 161 #[.int .u64 h] (.agg #[.int .u64 e1, .int .u64 e0])) (HC : Ct 235 #[.agg #[.int .u64 a1, .int .u64 a0], .agg #[.int .u64 e1, .int .u64 e0]] (.int .i64 c)) (g : ¬ c ≤ 0) :
    Calls Tryz.prog 168 #[.int .i64 w, .int .i64 k, .int .u64 x, .bool s] W fun r W' => r = .returned (.tuple #[.int .u64 h, .int .i64 3]) ∧ Below W.heap.size W W' := by
  have HB := hide (Below.refl W.heap.size W)
  go_enter Tryz.func168, Tryz.ntmps168
  go_wp2_with fail
  refine (unhide HK _).mono ?_
  rintro _ w1 ⟨rfl, hb⟩
  have HB := hide (bthen (unhide HB) hb)
  clear hb
  go_wp2_with fail
  refine (unhide HO _).mono ?_
  rintro _ w2 ⟨rfl, hb⟩
  have HB := hide (balloc (bthen (unhide HB) hb) (.cells #[.bool false, .int .i64 1, .int .i64 X, .int .u64 S] 37))
  have HA := hide (at4_new w2 (.bool false) (.int .i64 1) (.int .i64 X) (.int .u64 S) 37)
  clear hb
  go_wp2_with fail
  refine (unhide HE _).mono ?_
  rintro _ w3 ⟨rfl, hb⟩
  have HB := hide (bthen (unhide HB) hb)
  have HA := hide ((unhide HA).below hb)
  clear hb
  obtain ⟨c0, c1, c2, c3⟩ := unhide HA
  go_wp2_with fail
  clear c0 c1 c2 c3
  refine (unhide HM _).mono ?_
  rintro _ w4 ⟨rfl, hb⟩
  have HB := hide (bthen (unhide HB) hb)
  have HA := hide ((unhide HA).below hb)
  clear hb
  have HB := hide (balloc (unhide HB) (.cells #[.int .u64 a1, .int .u64 a0] 135)).drew
  have HA := hide ((unhide HA).below (below1 w4 (.cells #[.int .u64 a1, .int .u64 a0] 135)).drew)
  have H2 := hide (at2_mk w4 (.int .u64 a1) (.int .u64 a0) 135)
  go_wp2_with fail
  refine wp_region_held_drew (S := fun w' => (w'.cell? ⟨w4.heap.size, 0, none⟩ = some (.int .u64 a1) ∧ w'.cell? ⟨w4.heap.size, 1, none⟩ = some (.int .u64 a0))) (by kernel_rfl) ?_ (fun hHeld => ?_)
  · (try dsimp only)
    exact unhide H2
  refine lst0 5 (by kernel_rfl) ?_
  refine tkA 0 39 1 ?_
  refine tkA 1 40 3 ?_
  refine rdA 2 7 (fun Kk hKk => ?_)
  go_simp
  refine (unhide HF _).mono ?_
  rintro _ w5 ⟨rfl, hb⟩
  have HB := hide (bthen (unhide HB) hb)
  have HA := hide ((unhide HA).below hb)
  have H2 := hide ((unhide H2).below hb)
  clear hb
  (try go_wp2_with fail)
  refine hKk.out _ _ ?_ (fun hHeld => ?_)
  · (try dsimp only)
    exact unhide H2
  clear hKk Kk
  (try simp only [List.setIfInBounds_toArray, List.set_cons_zero, List.set_cons_succ])
  refine rdA 3 15 (fun Kk hKk => ?_)
  go_simp
  refine (unhide HC _).mono ?_
  rintro _ w6 ⟨rfl, hb⟩
  have HB := hide (bthen (unhide HB) hb)
  have HA := hide ((unhide HA).below hb)
  have H2 := hide ((unhide H2).below hb)
  clear hb
  (try go_wp2_with fail)
  refine hKk.out _ _ ?_ (fun hHeld => ?_)
  · (try dsimp only)
    exact unhide H2
  clear hKk Kk
  (try simp only [List.setIfInBounds_toArray, List.set_cons_zero, List.set_cons_succ])
  refine tkA 4 43 31 ?_
  refine wpAnyH_done (by kernel_rfl) ?_ _
  clear hHeld
  go_wp2_with fail
  go_ret2
  exact ⟨rfl, unhide HB⟩
set_option maxHeartbeats 4000000 in
set_option maxRecDepth 100000 in
theorem chopped_zero_f {w k x X S L h : Int} {s : Bool} (W : World) (HK : Ct 245 #[.int .i64 k] (.bool true)) (HO : Ct 15 #[.int .i64 w, .int .u64 x] (.agg #[.bool false, .int .i64 0, .int .i64 X, .int .u64 S])) (HE : Ct 246 #[.int .i64 k, .bool s] (.tuple #[.int .u64 L, .int .u64 h])) :
    Calls Tryz.prog 168 #[.int .i64 w, .int .i64 k, .int .u64 x, .bool s] W fun r W' => r = .returned (.tuple #[.int .u64 0, .int .i64 0]) ∧ Below W.heap.size W W' := by
  have HB := hide (Below.refl W.heap.size W)
  go_enter Tryz.func168, Tryz.ntmps168
  go_wp2_with fail
  refine (unhide HK _).mono ?_
  rintro _ w1 ⟨rfl, hb⟩
  have HB := hide (bthen (unhide HB) hb)
  clear hb
  go_wp2_with fail
  refine (unhide HO _).mono ?_
  rintro _ w2 ⟨rfl, hb⟩
  have HB := hide (balloc (bthen (unhide HB) hb) (.cells #[.bool false, .int .i64 0, .int .i64 X, .int .u64 S] 37))
  have HA := hide (at4_new w2 (.bool false) (.int .i64 0) (.int .i64 X) (.int .u64 S) 37)
  clear hb
  go_wp2_with fail
  refine (unhide HE _).mono ?_
  rintro _ w3 ⟨rfl, hb⟩
  have HB := hide (bthen (unhide HB) hb)
  have HA := hide ((unhide HA).below hb)
  clear hb
  obtain ⟨c0, c1, c2, c3⟩ := unhide HA
  go_wp2_with fail
  go_ret2
  exact ⟨rfl, unhide HB⟩
end Go.Proofs.YtpbgpdmffejdgaaGreatDoor
namespace Go.Proofs.YtpbgpdmffejdgaaGreatDoor
open Go.RowKit
open Go.Proofs.YtpbgpdmffejdgaaGreatDoor.W

set_option maxHeartbeats 4000000 in
set_option maxRecDepth 100000 in
theorem exact_0 {K1 X1 S1 K2 X2 S2 L : Int} {n1 n2 nn : Bool} {Z D : Nat} (W : World) (HC : Hid (∀ W, Calls Tryz.prog 53 #[.agg #[.bool n1, .int .i64 K1, .int .i64 X1, .int .u64 S1], .agg #[.bool n2, .int .i64 K2, .int .i64 X2, .int .u64 S2]] W fun r W' => ∃ s t, r = .returned (.tuple #[.agg #[s, t, .int .i64 L], .bool nn]) ∧ IsNat W' s Z ∧ IsNat W' t D ∧ Below W.heap.size W W')) : Calls Tryz.prog 16 #[.int .i64 0, .agg #[.bool n1, .int .i64 K1, .int .i64 X1, .int .u64 S1], .agg #[.bool n2, .int .i64 K2, .int .i64 X2, .int .u64 S2]] W fun r W' => ∃ s t, r = .returned (.tuple #[.agg #[s, t, .int .i64 L], .bool nn]) ∧ IsNat W' s Z ∧ IsNat W' t D ∧ Below W.heap.size W W' := by
  go_enter Tryz.func16, Tryz.ntmps16
  go_wp2_with fail
  have HB := hide ((balloc (below2 W (.cells #[.bool n1, .int .i64 K1, .int .i64 X1, .int .u64 S1] 37) (.cells #[.bool n2, .int .i64 K2, .int .i64 X2, .int .u64 S2] 37)) (.cells #[.slice none 0 0, .slice none 0 0, .int .i64 0] 43)))
  have H1 := hide ((at4_new2a W (.bool n1) (.int .i64 K1) (.int .i64 X1) (.int .u64 S1) 37 (.cells #[.bool n2, .int .i64 K2, .int .i64 X2, .int .u64 S2] 37)).below (below1 _ (.cells #[.slice none 0 0, .slice none 0 0, .int .i64 0] 43)))
  have H2 := hide ((at4_new2b W (.cells #[.bool n1, .int .i64 K1, .int .i64 X1, .int .u64 S1] 37) (.bool n2) (.int .i64 K2) (.int .i64 X2) (.int .u64 S2) 37).below (below1 _ (.cells #[.slice none 0 0, .slice none 0 0, .int .i64 0] 43)))
  have HR : Hid (Res (W.heap.size + 1 + 1) (((W.alloc (.cells #[.bool n1, .int .i64 K1, .int .i64 X1, .int .u64 S1] 37)).alloc (.cells #[.bool n2, .int .i64 K2, .int .i64 X2, .int .u64 S2] 37)).alloc (.cells #[.slice none 0 0, .slice none 0 0, .int .i64 0] 43))) := hide ⟨(show Room (W.heap.size + 1 + 1) 3 (((W.alloc (.cells #[.bool n1, .int .i64 K1, .int .i64 X1, .int .u64 S1] 37)).alloc (.cells #[.bool n2, .int .i64 K2, .int .i64 X2, .int .u64 S2] 37)).alloc (.cells #[.slice none 0 0, .slice none 0 0, .int .i64 0] 43)) from by
      intro o ho
      match o, ho with
      | 0, _ | 1, _ | 2, _ => simp [go_sem]), by simp [go_sem]⟩
  clear H1 H2
  refine (unhide HC _).mono ?_
  rintro _ w1 ⟨s1, s2, rfl, hN, hM, hb⟩
  obtain ⟨a1, m1, c1, rfl⟩ := hN.slice
  obtain ⟨a2, m2, c2, rfl⟩ := hM.slice
  have HB := hide (bthen (unhide HB) hb)
  have HR := hide ((unhide HR).below hb)
  have N1 := hide hN
  have N2 := hide hM
  clear hb hN hM
  obtain ⟨⟨u0, r0⟩, g0⟩ := (unhide HR).1 0 (by omega)
  obtain ⟨⟨u1, r1⟩, g1⟩ := (unhide HR).1 1 (by omega)
  obtain ⟨⟨u2, r2⟩, g2⟩ := (unhide HR).1 2 (by omega)
  go_wp2_with fail
  exact bodyPost_ret (v := .tuple #[.agg #[.slice a1 m1 c1, .slice a2 m2 c2, .int .i64 L], .bool nn]) (by simp (maxDischargeDepth := 8) [results, Tryz.results16, go_sem, r0, r1, r2]) rfl ⟨_, _, rfl, nat_sto3 (unhide N1) (unhide HR) _ _ _ _ _ _ _, nat_sto3 (unhide N2) (unhide HR) _ _ _ _ _ _ _, bset (bset (bset (unhide HB) (W.heap.size + 1 + 1) (by omega) _ _) (W.heap.size + 1 + 1) (by omega) _ _) (W.heap.size + 1 + 1) (by omega) _ _⟩
set_option maxHeartbeats 4000000 in
set_option maxRecDepth 100000 in
theorem exact_1 {K1 X1 S1 K2 X2 S2 L : Int} {n1 n2 nn : Bool} {Z D : Nat} (W : World) (HC : Hid (∀ W, Calls Tryz.prog 53 #[.agg #[.bool n1, .int .i64 K1, .int .i64 X1, .int .u64 S1], .agg #[.bool (!n2), .int .i64 K2, .int .i64 X2, .int .u64 S2]] W fun r W' => ∃ s t, r = .returned (.tuple #[.agg #[s, t, .int .i64 L], .bool nn]) ∧ IsNat W' s Z ∧ IsNat W' t D ∧ Below W.heap.size W W')) : Calls Tryz.prog 16 #[.int .i64 1, .agg #[.bool n1, .int .i64 K1, .int .i64 X1, .int .u64 S1], .agg #[.bool n2, .int .i64 K2, .int .i64 X2, .int .u64 S2]] W fun r W' => ∃ s t, r = .returned (.tuple #[.agg #[s, t, .int .i64 L], .bool nn]) ∧ IsNat W' s Z ∧ IsNat W' t D ∧ Below W.heap.size W W' := by
  go_enter Tryz.func16, Tryz.ntmps16
  go_wp2_with fail
  have HB := hide ((balloc (below2 W (.cells #[.bool n1, .int .i64 K1, .int .i64 X1, .int .u64 S1] 37) (.cells #[.bool (!n2), .int .i64 K2, .int .i64 X2, .int .u64 S2] 37)) (.cells #[.slice none 0 0, .slice none 0 0, .int .i64 0] 43)))
  have H1 := hide ((at4_new2a W (.bool n1) (.int .i64 K1) (.int .i64 X1) (.int .u64 S1) 37 (.cells #[.bool (!n2), .int .i64 K2, .int .i64 X2, .int .u64 S2] 37)).below (below1 _ (.cells #[.slice none 0 0, .slice none 0 0, .int .i64 0] 43)))
  have H2 := hide ((at4_new2b W (.cells #[.bool n1, .int .i64 K1, .int .i64 X1, .int .u64 S1] 37) (.bool (!n2)) (.int .i64 K2) (.int .i64 X2) (.int .u64 S2) 37).below (below1 _ (.cells #[.slice none 0 0, .slice none 0 0, .int .i64 0] 43)))
  have HR : Hid (Res (W.heap.size + 1 + 1) (((W.alloc (.cells #[.bool n1, .int .i64 K1, .int .i64 X1, .int .u64 S1] 37)).alloc (.cells #[.bool (!n2), .int .i64 K2, .int .i64 X2, .int .u64 S2] 37)).alloc (.cells #[.slice none 0 0, .slice none 0 0, .int .i64 0] 43))) := hide ⟨(show Room (W.heap.size + 1 + 1) 3 (((W.alloc (.cells #[.bool n1, .int .i64 K1, .int .i64 X1, .int .u64 S1] 37)).alloc (.cells #[.bool (!n2), .int .i64 K2, .int .i64 X2, .int .u64 S2] 37)).alloc (.cells #[.slice none 0 0, .slice none 0 0, .int .i64 0] 43)) from by
      intro o ho
      match o, ho with
      | 0, _ | 1, _ | 2, _ => simp [go_sem]), by simp [go_sem]⟩
  clear H1 H2
  refine (unhide HC _).mono ?_
  rintro _ w1 ⟨s1, s2, rfl, hN, hM, hb⟩
  obtain ⟨a1, m1, c1, rfl⟩ := hN.slice
  obtain ⟨a2, m2, c2, rfl⟩ := hM.slice
  have HB := hide (bthen (unhide HB) hb)
  have HR := hide ((unhide HR).below hb)
  have N1 := hide hN
  have N2 := hide hM
  clear hb hN hM
  obtain ⟨⟨u0, r0⟩, g0⟩ := (unhide HR).1 0 (by omega)
  obtain ⟨⟨u1, r1⟩, g1⟩ := (unhide HR).1 1 (by omega)
  obtain ⟨⟨u2, r2⟩, g2⟩ := (unhide HR).1 2 (by omega)
  go_wp2_with fail
  exact bodyPost_ret (v := .tuple #[.agg #[.slice a1 m1 c1, .slice a2 m2 c2, .int .i64 L], .bool nn]) (by simp (maxDischargeDepth := 8) [results, Tryz.results16, go_sem, r0, r1, r2]) rfl ⟨_, _, rfl, nat_sto3 (unhide N1) (unhide HR) _ _ _ _ _ _ _, nat_sto3 (unhide N2) (unhide HR) _ _ _ _ _ _ _, bset (bset (bset (unhide HB) (W.heap.size + 1 + 1) (by omega) _ _) (W.heap.size + 1 + 1) (by omega) _ _) (W.heap.size + 1 + 1) (by omega) _ _⟩
set_option maxHeartbeats 4000000 in
set_option maxRecDepth 100000 in
theorem exact_2 {K1 X1 S1 K2 X2 S2 L : Int} {n1 n2 nn : Bool} {Z D : Nat} (W : World) (HS : Hid (0 ≤ S1 ∧ S1 < 18446744073709551616 ∧ S1.toNat < pw 2 ∧ 0 ≤ S2 ∧ S2 < 18446744073709551616 ∧ S2.toNat < pw 2)) (hL : IntKind.i64.wrap (X1 + X2) = L) (hZ : S1.toNat * S2.toNat = Z) (hD : 1 = D) (hn : (n1 != n2) = nn) : Calls Tryz.prog 16 #[.int .i64 2, .agg #[.bool n1, .int .i64 K1, .int .i64 X1, .int .u64 S1], .agg #[.bool n2, .int .i64 K2, .int .i64 X2, .int .u64 S2]] W fun r W' => ∃ s t, r = .returned (.tuple #[.agg #[s, t, .int .i64 L], .bool nn]) ∧ IsNat W' s Z ∧ IsNat W' t D ∧ Below W.heap.size W W' := by
  subst hZ hD hn
  go_enter Tryz.func16, Tryz.ntmps16
  go_wp2_with fail
  have HB := hide ((balloc (below2 W (.cells #[.bool n1, .int .i64 K1, .int .i64 X1, .int .u64 S1] 37) (.cells #[.bool n2, .int .i64 K2, .int .i64 X2, .int .u64 S2] 37)) (.cells #[.slice none 0 0, .slice none 0 0, .int .i64 0] 43)).drew)
  have H1 := hide ((at4_new2a W (.bool n1) (.int .i64 K1) (.int .i64 X1) (.int .u64 S1) 37 (.cells #[.bool n2, .int .i64 K2, .int .i64 X2, .int .u64 S2] 37)).below (below1 _ (.cells #[.slice none 0 0, .slice none 0 0, .int .i64 0] 43)).drew)
  have H2 := hide ((at4_new2b W (.cells #[.bool n1, .int .i64 K1, .int .i64 X1, .int .u64 S1] 37) (.bool n2) (.int .i64 K2) (.int .i64 X2) (.int .u64 S2) 37).below (below1 _ (.cells #[.slice none 0 0, .slice none 0 0, .int .i64 0] 43)).drew)
  have HR : Hid (Res (W.heap.size + 1 + 1) (((W.alloc (.cells #[.bool n1, .int .i64 K1, .int .i64 X1, .int .u64 S1] 37)).alloc (.cells #[.bool n2, .int .i64 K2, .int .i64 X2, .int .u64 S2] 37)).alloc (.cells #[.slice none 0 0, .slice none 0 0, .int .i64 0] 43)).drew) := hide ⟨((show Room (W.heap.size + 1 + 1) 3 (((W.alloc (.cells #[.bool n1, .int .i64 K1, .int .i64 X1, .int .u64 S1] 37)).alloc (.cells #[.bool n2, .int .i64 K2, .int .i64 X2, .int .u64 S2] 37)).alloc (.cells #[.slice none 0 0, .slice none 0 0, .int .i64 0] 43)) from by
      intro o ho
      match o, ho with
      | 0, _ | 1, _ | 2, _ => simp [go_sem])).drew, by simp [go_sem]⟩
  refine wp_region_held_drew (S := fun w' => (w'.cell? ⟨W.heap.size, 0, none⟩ = some (.bool n1) ∧ w'.cell? ⟨W.heap.size, 1, none⟩ = some (.int .i64 K1) ∧ w'.cell? ⟨W.heap.size, 2, none⟩ = some (.int .i64 X1) ∧ w'.cell? ⟨W.heap.size, 3, none⟩ = some (.int .u64 S1)) ∧ (w'.cell? ⟨W.heap.size + 1, 0, none⟩ = some (.bool n2) ∧ w'.cell? ⟨W.heap.size + 1, 1, none⟩ = some (.int .i64 K2) ∧ w'.cell? ⟨W.heap.size + 1, 2, none⟩ = some (.int .i64 X2) ∧ w'.cell? ⟨W.heap.size + 1, 3, none⟩ = some (.int .u64 S2))) (by kernel_rfl) ?_ (fun hHeld => ?_)
  · (try dsimp only)
    exact ⟨unhide H1, unhide H2⟩
  refine lst0 21 (by kernel_rfl) ?_
  refine tkA 0 29 1 ?_
  refine tkA 1 30 3 ?_
  refine tkA 3 32 11 ?_
  refine tkA 4 33 27 ?_
  refine tkA 8 37 283 ?_
  refine tkA 9 38 795 ?_
  refine tkA 10 39 1819 ?_
  refine tkA 11 40 3867 ?_
  refine tkA 12 41 7963 ?_
  refine tkA 14 43 24347 ?_
  refine tkA 15 44 57115 ?_
  refine tkA 16 45 122651 ?_
  refine tkA 17 46 253723 ?_
  refine tkA 18 47 515867 ?_
  refine rdA 2 515871 (fun Kk hKk => ?_)
  go_simp
  refine (refOf_any S1 _ (unhide HS).1 (unhide HS).2.1).mono ?_
  rintro _ w1 ⟨s1, rfl, hN, hb⟩
  obtain ⟨a1, m1, c1, rfl⟩ := hN.slice
  have N1 := hide hN
  clear hN
  have HB := hide (bthen (unhide HB) hb)
  have H1 := hide ((unhide H1).below hb)
  have H2 := hide ((unhide H2).below hb)
  have HR := hide ((unhide HR).below hb)
  clear hb
  (try go_wp2_with fail)
  refine hKk.out _ _ ?_ (fun hHeld => ?_)
  · (try dsimp only)
    exact ⟨unhide H1, unhide H2⟩
  clear hKk Kk
  (try simp only [List.setIfInBounds_toArray, List.set_cons_zero, List.set_cons_succ])
  refine rdA 5 515903 (fun Kk hKk => ?_)
  go_simp
  refine (refOf_any S2 _ (unhide HS).2.2.2.1 (unhide HS).2.2.2.2.1).mono ?_
  rintro _ w2 ⟨s2, rfl, hN, hb⟩
  obtain ⟨a2, m2, c2, rfl⟩ := hN.slice
  have N2 := hide hN
  clear hN
  have HB := hide (bthen (unhide HB) hb)
  have H1 := hide ((unhide H1).below hb)
  have H2 := hide ((unhide H2).below hb)
  have HR := hide ((unhide HR).below hb)
  have N1 := hide ((unhide N1).below hb)
  clear hb
  (try go_wp2_with fail)
  refine hKk.out _ _ ?_ (fun hHeld => ?_)
  · (try dsimp only)
    exact ⟨unhide H1, unhide H2⟩
  clear hKk Kk
  (try simp only [List.setIfInBounds_toArray, List.set_cons_zero, List.set_cons_succ])
  refine rdA 6 515967 (fun Kk hKk => ?_)
  go_simp
  refine (refMul_any _ _ _ _ _ _ _ _ _ (unhide N1) (unhide N2) (Nat.le_trans ((unhide N1).short (unhide HS).2.2.1) (by omega)) (Nat.le_trans ((unhide N2).short (unhide HS).2.2.2.2.2) (by omega))).mono ?_
  rintro _ w3 ⟨s3, rfl, hN, hb⟩
  obtain ⟨a3, m3, c3, rfl⟩ := hN.slice
  have N3 := hide hN
  clear hN
  have HB := hide (bthen (unhide HB) hb)
  have H1 := hide ((unhide H1).below hb)
  have H2 := hide ((unhide H2).below hb)
  have HR := hide ((unhide HR).below hb)
  clear hb
  (try go_wp2_with fail)
  refine hKk.out _ _ ?_ (fun hHeld => ?_)
  · (try dsimp only)
    exact ⟨unhide H1, unhide H2⟩
  clear hKk Kk
  (try simp only [List.setIfInBounds_toArray, List.set_cons_zero, List.set_cons_succ])
  refine rdA 7 516095 (fun Kk hKk => ?_)
  go_simp
  refine (refOf_1 _).mono ?_
  rintro _ w4 ⟨s4, rfl, hN, hb⟩
  obtain ⟨a4, m4, c4, rfl⟩ := hN.slice
  have N4 := hide hN
  clear hN
  have HB := hide (bthen (unhide HB) hb)
  have H1 := hide ((unhide H1).below hb)
  have H2 := hide ((unhide H2).below hb)
  have HR := hide ((unhide HR).below hb)
  have N3 := hide ((unhide N3).below hb)
  clear hb
  (try go_wp2_with fail)
  refine hKk.out _ _ ?_ (fun hHeld => ?_)
  · (try dsimp only)
    exact ⟨unhide H1, unhide H2⟩
  clear hKk Kk
  (try simp only [List.setIfInBounds_toArray, List.set_cons_zero, List.set_cons_succ])
  refine tkA 13 42 524287 ?_
  refine rdA 19 1048575 (fun Kk hKk => ?_)
  obtain ⟨⟨u0, r0⟩, g0⟩ := (unhide HR).1 0 (by omega)
  obtain ⟨⟨u1, r1⟩, g1⟩ := (unhide HR).1 1 (by omega)
  obtain ⟨⟨u2, r2⟩, g2⟩ := (unhide HR).1 2 (by omega)
  go_simp
  refine hKk.out _ _ ?_ (fun hHeld => ?_)
  · (try dsimp only)
    exact ⟨At4.set (c := W.heap.size + 1 + 1) (At4.set (c := W.heap.size + 1 + 1) (At4.set (c := W.heap.size + 1 + 1) (unhide H1) (by omega) _ _) (by omega) _ _) (by omega) _ _, At4.set (c := W.heap.size + 1 + 1) (At4.set (c := W.heap.size + 1 + 1) (At4.set (c := W.heap.size + 1 + 1) (unhide H2) (by omega) _ _) (by omega) _ _) (by omega) _ _⟩
  clear hKk Kk
  (try simp only [List.setIfInBounds_toArray, List.set_cons_zero, List.set_cons_succ])
  refine tkA 20 7 2097151 ?_
  refine wpAnyH_done (by kernel_rfl) ?_ _
  clear hHeld
  go_wp2_with fail
  exact bodyPost_ret (v := .tuple #[.agg #[.slice a3 m3 c3, .slice a4 m4 c4, .int .i64 L], .bool (n1 != n2)]) (by simp (maxDischargeDepth := 8) [results, Tryz.results16, go_sem, r0, r1, r2]; cases n1 <;> cases n2 <;> rfl) rfl ⟨_, _, rfl, nat_sto3 (unhide N3) (unhide HR) _ _ _ _ _ _ _, nat_sto3 (unhide N4) (unhide HR) _ _ _ _ _ _ _, bset (bset (bset (unhide HB) (W.heap.size + 1 + 1) (by omega) _ _) (W.heap.size + 1 + 1) (by omega) _ _) (W.heap.size + 1 + 1) (by omega) _ _⟩
set_option maxHeartbeats 4000000 in
set_option maxRecDepth 100000 in
theorem exact_3 {K1 X1 S1 K2 X2 S2 L : Int} {n1 n2 nn : Bool} {Z D : Nat} (W : World) (HS : Hid (0 ≤ S1 ∧ S1 < 18446744073709551616 ∧ S1.toNat < pw 2 ∧ 0 ≤ S2 ∧ S2 < 18446744073709551616 ∧ S2.toNat < pw 2)) (hL : IntKind.i64.wrap (X1 - X2) = L) (hZ : S1.toNat = Z) (hD : S2.toNat = D) (hn : (n1 != n2) = nn) : Calls Tryz.prog 16 #[.int .i64 3, .agg #[.bool n1, .int .i64 K1, .int .i64 X1, .int .u64 S1], .agg #[.bool n2, .int .i64 K2, .int .i64 X2, .int .u64 S2]] W fun r W' => ∃ s t, r = .returned (.tuple #[.agg #[s, t, .int .i64 L], .bool nn]) ∧ IsNat W' s Z ∧ IsNat W' t D ∧ Below W.heap.size W W' := by
  subst hZ hD hn
  go_enter Tryz.func16, Tryz.ntmps16
  go_wp2_with fail
  have HB := hide ((balloc (below2 W (.cells #[.bool n1, .int .i64 K1, .int .i64 X1, .int .u64 S1] 37) (.cells #[.bool n2, .int .i64 K2, .int .i64 X2, .int .u64 S2] 37)) (.cells #[.slice none 0 0, .slice none 0 0, .int .i64 0] 43)).drew)
  have H1 := hide ((at4_new2a W (.bool n1) (.int .i64 K1) (.int .i64 X1) (.int .u64 S1) 37 (.cells #[.bool n2, .int .i64 K2, .int .i64 X2, .int .u64 S2] 37)).below (below1 _ (.cells #[.slice none 0 0, .slice none 0 0, .int .i64 0] 43)).drew)
  have H2 := hide ((at4_new2b W (.cells #[.bool n1, .int .i64 K1, .int .i64 X1, .int .u64 S1] 37) (.bool n2) (.int .i64 K2) (.int .i64 X2) (.int .u64 S2) 37).below (below1 _ (.cells #[.slice none 0 0, .slice none 0 0, .int .i64 0] 43)).drew)
  have HR : Hid (Res (W.heap.size + 1 + 1) (((W.alloc (.cells #[.bool n1, .int .i64 K1, .int .i64 X1, .int .u64 S1] 37)).alloc (.cells #[.bool n2, .int .i64 K2, .int .i64 X2, .int .u64 S2] 37)).alloc (.cells #[.slice none 0 0, .slice none 0 0, .int .i64 0] 43)).drew) := hide ⟨((show Room (W.heap.size + 1 + 1) 3 (((W.alloc (.cells #[.bool n1, .int .i64 K1, .int .i64 X1, .int .u64 S1] 37)).alloc (.cells #[.bool n2, .int .i64 K2, .int .i64 X2, .int .u64 S2] 37)).alloc (.cells #[.slice none 0 0, .slice none 0 0, .int .i64 0] 43)) from by
      intro o ho
      match o, ho with
      | 0, _ | 1, _ | 2, _ => simp [go_sem])).drew, by simp [go_sem]⟩
  refine wp_region_held_drew (S := fun w' => (w'.cell? ⟨W.heap.size, 0, none⟩ = some (.bool n1) ∧ w'.cell? ⟨W.heap.size, 1, none⟩ = some (.int .i64 K1) ∧ w'.cell? ⟨W.heap.size, 2, none⟩ = some (.int .i64 X1) ∧ w'.cell? ⟨W.heap.size, 3, none⟩ = some (.int .u64 S1)) ∧ (w'.cell? ⟨W.heap.size + 1, 0, none⟩ = some (.bool n2) ∧ w'.cell? ⟨W.heap.size + 1, 1, none⟩ = some (.int .i64 K2) ∧ w'.cell? ⟨W.heap.size + 1, 2, none⟩ = some (.int .i64 X2) ∧ w'.cell? ⟨W.heap.size + 1, 3, none⟩ = some (.int .u64 S2))) (by kernel_rfl) ?_ (fun hHeld => ?_)
  · (try dsimp only)
    exact ⟨unhide H1, unhide H2⟩
  refine lst0 19 (by kernel_rfl) ?_
  refine tkA 0 48 1 ?_
  refine tkA 1 49 3 ?_
  refine tkA 3 51 11 ?_
  refine tkA 4 52 27 ?_
  refine tkA 6 54 91 ?_
  refine tkA 7 55 219 ?_
  refine tkA 8 56 475 ?_
  refine tkA 9 57 987 ?_
  refine tkA 10 58 2011 ?_
  refine tkA 12 60 6107 ?_
  refine tkA 13 61 14299 ?_
  refine tkA 14 62 30683 ?_
  refine tkA 15 63 63451 ?_
  refine tkA 16 64 128987 ?_
  refine rdA 2 128991 (fun Kk hKk => ?_)
  go_simp
  refine (refOf_any S1 _ (unhide HS).1 (unhide HS).2.1).mono ?_
  rintro _ w1 ⟨s1, rfl, hN, hb⟩
  obtain ⟨a1, m1, c1, rfl⟩ := hN.slice
  have N1 := hide hN
  clear hN
  have HB := hide (bthen (unhide HB) hb)
  have H1 := hide ((unhide H1).below hb)
  have H2 := hide ((unhide H2).below hb)
  have HR := hide ((unhide HR).below hb)
  clear hb
  (try go_wp2_with fail)
  refine hKk.out _ _ ?_ (fun hHeld => ?_)
  · (try dsimp only)
    exact ⟨unhide H1, unhide H2⟩
  clear hKk Kk
  (try simp only [List.setIfInBounds_toArray, List.set_cons_zero, List.set_cons_succ])
  refine rdA 5 129023 (fun Kk hKk => ?_)
  go_simp
  refine (refOf_any S2 _ (unhide HS).2.2.2.1 (unhide HS).2.2.2.2.1).mono ?_
  rintro _ w2 ⟨s2, rfl, hN, hb⟩
  obtain ⟨a2, m2, c2, rfl⟩ := hN.slice
  have N2 := hide hN
  clear hN
  have HB := hide (bthen (unhide HB) hb)
  have H1 := hide ((unhide H1).below hb)
  have H2 := hide ((unhide H2).below hb)
  have HR := hide ((unhide HR).below hb)
  have N1 := hide ((unhide N1).below hb)
  clear hb
  (try go_wp2_with fail)
  refine hKk.out _ _ ?_ (fun hHeld => ?_)
  · (try dsimp only)
    exact ⟨unhide H1, unhide H2⟩
  clear hKk Kk
  (try simp only [List.setIfInBounds_toArray, List.set_cons_zero, List.set_cons_succ])
  refine tkA 11 59 131071 ?_
  refine rdA 17 262143 (fun Kk hKk => ?_)
  obtain ⟨⟨u0, r0⟩, g0⟩ := (unhide HR).1 0 (by omega)
  obtain ⟨⟨u1, r1⟩, g1⟩ := (unhide HR).1 1 (by omega)
  obtain ⟨⟨u2, r2⟩, g2⟩ := (unhide HR).1 2 (by omega)
  go_simp
  refine hKk.out _ _ ?_ (fun hHeld => ?_)
  · (try dsimp only)
    exact ⟨At4.set (c := W.heap.size + 1 + 1) (At4.set (c := W.heap.size + 1 + 1) (At4.set (c := W.heap.size + 1 + 1) (unhide H1) (by omega) _ _) (by omega) _ _) (by omega) _ _, At4.set (c := W.heap.size + 1 + 1) (At4.set (c := W.heap.size + 1 + 1) (At4.set (c := W.heap.size + 1 + 1) (unhide H2) (by omega) _ _) (by omega) _ _) (by omega) _ _⟩
  clear hKk Kk
  (try simp only [List.setIfInBounds_toArray, List.set_cons_zero, List.set_cons_succ])
  refine tkA 18 7 524287 ?_
  refine wpAnyH_done (by kernel_rfl) ?_ _
  clear hHeld
  go_wp2_with fail
  exact bodyPost_ret (v := .tuple #[.agg #[.slice a1 m1 c1, .slice a2 m2 c2, .int .i64 L], .bool (n1 != n2)]) (by simp (maxDischargeDepth := 8) [results, Tryz.results16, go_sem, r0, r1, r2]; cases n1 <;> cases n2 <;> rfl) rfl ⟨_, _, rfl, nat_sto3 (unhide N1) (unhide HR) _ _ _ _ _ _ _, nat_sto3 (unhide N2) (unhide HR) _ _ _ _ _ _ _, bset (bset (bset (unhide HB) (W.heap.size + 1 + 1) (by omega) _ _) (W.heap.size + 1 + 1) (by omega) _ _) (W.heap.size + 1 + 1) (by omega) _ _⟩
end Go.Proofs.YtpbgpdmffejdgaaGreatDoor
