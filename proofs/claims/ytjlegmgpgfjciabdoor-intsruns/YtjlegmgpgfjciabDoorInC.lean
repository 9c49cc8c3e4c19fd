/- Walks of package ints: what the package exports. -/
import Derived.Test.YtjlegmgpgfjciabDoorTk
namespace Go.Proofs.YtjlegmgpgfjciabDoor
open Go.RowKit

def At3 (b : Nat) (x y z : Value) (w : World) : Prop := w.cell? ⟨b, 0, none⟩ = some x ∧ w.cell? ⟨b, 1, none⟩ = some y ∧ w.cell? ⟨b, 2, none⟩ = some z
theorem At3.below {b : Nat} {x y z : Value} {w w' : World} (h : At3 b x y z w) (hb : Below w.heap.size w w') : At3 b x y z w' :=
  have hz := lt_of_cell h.1
  ⟨keep1 hb hz h.1, keep1 hb hz h.2.1, keep1 hb hz h.2.2⟩
theorem at3_new (w : World) (x y z : Value) (t : TypeId) : At3 w.heap.size x y z (w.alloc (.cells #[x, y, z] t)) := by unfold At3; simp [go_sem]

set_option maxHeartbeats 4000000 in
set_option maxRecDepth 100000 in
theorem add_m {w a b v : Int} (HR : Ct 18 #[.int .i64 w, .int .u64 a, .int .u64 b, .func (.func 24) #[] #[], .func (.func 25) #[] #[]] (.int .u64 v)) : Ct 10 #[.int .i64 w, .int .u64 a, .int .u64 b] (.int .u64 v) := by
  refine hide (fun W => ?_)
  have HB := hide (Below.refl W.heap.size W)
  go_enter Tryd.func10, Tryd.ntmps10
  go_wp2_with fail
  refine (unhide HR _).mono ?_
  rintro _ w1 ⟨rfl, hb⟩
  have HB := hide (bthen (unhide HB) hb)
  clear hb
  go_wp2_with fail
  go_ret
  exact ⟨rfl, unhide HB⟩
set_option maxHeartbeats 4000000 in
set_option maxRecDepth 100000 in
theorem shl_m {w a b n v : Int} (HS : Ct 19 #[.int .i64 w, .int .u64 b] (.int .u64 n)) (HR : Ct 18 #[.int .i64 w, .int .u64 a, .int .u64 n, .func (.func 20) #[] #[], .func (.func 21) #[] #[]] (.int .u64 v)) : Ct 8 #[.int .i64 w, .int .u64 a, .int .u64 b] (.int .u64 v) := by
  refine hide (fun W => ?_)
  have HB := hide (Below.refl W.heap.size W)
  go_enter Tryd.func8, Tryd.ntmps8
  go_wp2_with fail
  refine (unhide HS _).mono ?_
  rintro _ w1 ⟨rfl, hb⟩
  have HB := hide (bthen (unhide HB) hb)
  clear hb
  go_wp2_with fail
  refine (unhide HR _).mono ?_
  rintro _ w2 ⟨rfl, hb⟩
  have HB := hide (bthen (unhide HB) hb)
  clear hb
  go_wp2_with fail
  go_ret
  exact ⟨rfl, unhide HB⟩
set_option maxHeartbeats 4000000 in
set_option maxRecDepth 100000 in
theorem shr_m {w a b n v : Int} (HS : Ct 19 #[.int .i64 w, .int .u64 b] (.int .u64 n)) (HR : Ct 18 #[.int .i64 w, .int .u64 a, .int .u64 n, .func (.func 22) #[] #[], .func (.func 23) #[] #[]] (.int .u64 v)) : Ct 9 #[.int .i64 w, .int .u64 a, .int .u64 b] (.int .u64 v) := by
  refine hide (fun W => ?_)
  have HB := hide (Below.refl W.heap.size W)
  go_enter Tryd.func9, Tryd.ntmps9
  go_wp2_with fail
  refine (unhide HS _).mono ?_
  rintro _ w1 ⟨rfl, hb⟩
  have HB := hide (bthen (unhide HB) hb)
  clear hb
  go_wp2_with fail
  refine (unhide HR _).mono ?_
  rintro _ w2 ⟨rfl, hb⟩
  have HB := hide (bthen (unhide HB) hb)
  clear hb
  go_wp2_with fail
  go_ret
  exact ⟨rfl, unhide HB⟩
set_option maxHeartbeats 4000000 in
set_option maxRecDepth 100000 in
theorem sar_m {w a b n v z : Int} (HS : Ct 19 #[.int .i64 w, .int .u64 b] (.int .u64 n)) (HR : Ct 27 #[.int .i64 w, .int .u64 a, .int .u64 n, .func (.func 28) #[] #[], .func (.func 29) #[] #[]] (.int .u64 v)) (HC : Ct 15 #[.int .i64 w, .int .u64 v] (.int .u64 z)) : Ct 12 #[.int .i64 w, .int .u64 a, .int .u64 b] (.int .u64 z) := by
  refine hide (fun W => ?_)
  have HB := hide (Below.refl W.heap.size W)
  go_enter Tryd.func12, Tryd.ntmps12
  go_wp2_with fail
  refine (unhide HS _).mono ?_
  rintro _ w1 ⟨rfl, hb⟩
  have HB := hide (bthen (unhide HB) hb)
  clear hb
  go_wp2_with fail
  refine (unhide HR _).mono ?_
  rintro _ w2 ⟨rfl, hb⟩
  have HB := hide (bthen (unhide HB) hb)
  clear hb
  go_wp2_with fail
  refine (unhide HC _).mono ?_
  rintro _ w3 ⟨rfl, hb⟩
  have HB := hide (bthen (unhide HB) hb)
  clear hb
  go_wp2_with fail
  go_ret
  exact ⟨rfl, unhide HB⟩
set_option maxHeartbeats 4000000 in
set_option maxRecDepth 100000 in
theorem pop_m {w a c p r : Int} (HC : Ct 15 #[.int .i64 w, .int .u64 a] (.int .u64 c)) (HP : Ct 17 #[.int .u64 c] (.int .i64 p)) (hr : IntKind.u64.wrap p = r) : Ct 7 #[.int .i64 w, .int .u64 a] (.int .u64 r) := by
  refine hide (fun W => ?_)
  have HB := hide (Below.refl W.heap.size W)
  go_enter Tryd.func7, Tryd.ntmps7
  go_wp2_with fail
  refine (unhide HC _).mono ?_
  rintro _ w1 ⟨rfl, hb⟩
  have HB := hide (bthen (unhide HB) hb)
  clear hb
  go_wp2_with fail
  refine (unhide HP _).mono ?_
  rintro _ w2 ⟨rfl, hb⟩
  have HB := hide (bthen (unhide HB) hb)
  clear hb
  go_wp2_with fail
  go_ret
  exact ⟨rfl, unhide HB⟩
set_option maxHeartbeats 4000000 in
set_option maxRecDepth 100000 in
theorem dividedS_m {w a b q r t : Int} (HF : Ct 33 #[.int .i64 w, .int .u64 a, .int .u64 b, .func (.func 34) #[] #[], .func (.func 35) #[] #[]] (.agg #[.int .u64 q, .int .u64 r, .int .i64 t])) : Ct 26 #[.int .i64 w, .int .u64 a, .int .u64 b] (.agg #[.int .u64 q, .int .u64 r, .int .i64 t]) := by
  refine hide (fun W => ?_)
  go_enter Tryd.func26, Tryd.ntmps26
  go_wp2_with fail
  have HB := hide (below1 W (.cells #[.int .u64 0, .int .u64 0, .int .i64 0] 37))
  have HR : Hid (Room W.heap.size 3 (W.alloc (.cells #[.int .u64 0, .int .u64 0, .int .i64 0] 37))) := by
    intro o ho
    match o, ho with
    | 0, _ | 1, _ | 2, _ => simp [go_sem]
  refine (unhide HF _).mono ?_
  rintro _ w1 ⟨rfl, hb⟩
  have HB := hide (bthen (unhide HB) hb)
  have HR := hide ((unhide HR).below hb)
  clear hb
  obtain ⟨⟨v0, c0⟩, f0⟩ := (unhide HR) 0 (by omega)
  obtain ⟨⟨v1, c1⟩, f1⟩ := (unhide HR) 1 (by omega)
  obtain ⟨⟨v2, c2⟩, f2⟩ := (unhide HR) 2 (by omega)
  have zy := lt_of_cell c0
  go_wp2
  exact bodyPost_ret (v := .agg #[.int .u64 q, .int .u64 r, .int .i64 t]) (by simp (maxDischargeDepth := 8) [results, Tryd.results26, go_sem, c0, c1, c2]) rfl ⟨rfl, bset (bset (bset (unhide HB) _ (Nat.le_refl _) _ _) _ (Nat.le_refl _) _ _) _ (Nat.le_refl _) _ _⟩
set_option maxHeartbeats 4000000 in
set_option maxRecDepth 100000 in
theorem divs_m {w a b q r t z : Int} (HD : Ct 26 #[.int .i64 w, .int .u64 a, .int .u64 b] (.agg #[.int .u64 q, .int .u64 r, .int .i64 t])) (HC : Ct 15 #[.int .i64 w, .int .u64 q] (.int .u64 z)) : Ct 11 #[.int .i64 w, .int .u64 a, .int .u64 b] (.tuple #[.int .u64 z, .int .i64 t]) := by
  refine hide (fun W => ?_)
  go_enter Tryd.func11, Tryd.ntmps11
  go_wp2_with fail
  refine (unhide HD _).mono ?_
  rintro _ w1 ⟨rfl, hb⟩
  have HB := hide (balloc hb (.cells #[.int .u64 q, .int .u64 r, .int .i64 t] 37))
  have HA := hide (at3_new w1 (.int .u64 q) (.int .u64 r) (.int .i64 t) 37)
  clear hb
  go_wp2_with fail
  have HB := hide ((unhide HB).drew)
  have HA := hide ((unhide HA).below ((Below.refl _ _).drew))
  refine wp_region_held_drew (S := fun w' => (w'.cell? ⟨w1.heap.size, 0, none⟩ = some (.int .u64 q) ∧ w'.cell? ⟨w1.heap.size, 1, none⟩ = some (.int .u64 r) ∧ w'.cell? ⟨w1.heap.size, 2, none⟩ = some (.int .i64 t))) (by kernel_rfl) ?_ (fun hHeld => ?_)
  · (try dsimp only)
    exact unhide HA
  refine lst0 8 (by kernel_rfl) ?_
  refine tkA 0 13 1 ?_
  refine tkA 1 14 3 ?_
  refine tkA 2 15 7 ?_
  refine tkA 4 17 23 ?_
  refine tkA 5 18 55 ?_
  refine rdA 3 63 (fun Kk hKk => ?_)
  go_simp
  refine (unhide HC _).mono ?_
  rintro _ w2 ⟨rfl, hb⟩
  have HB := hide (bthen (unhide HB) hb)
  have HA := hide ((unhide HA).below hb)
  clear hb
  (try go_wp2_with fail)
  refine hKk.out _ _ ?_ (fun hHeld => ?_)
  · (try dsimp only)
    exact unhide HA
  clear hKk Kk
  (try simp only [List.setIfInBounds_toArray, List.set_cons_zero, List.set_cons_succ])
  refine tkA 6 6 127 ?_
  refine tkA 7 7 255 ?_
  refine wpAnyH_done (by kernel_rfl) ?_ _
  clear hHeld
  go_wp2_with fail
  go_ret2
  exact ⟨rfl, unhide HB⟩
end Go.Proofs.YtjlegmgpgfjciabDoor
