/- Package sum: the walks of finite. -/
import Derived.Test.YtpbgpdmffejdgaaGreatDoorPlusA
import Derived.Test.YtpbgpdmffejdgaaGreatDoorTk
namespace Go.Proofs.YtpbgpdmffejdgaaGreatDoor
open Go.RowKit

theorem at4_new2a (w : World) (x y z u : Value) (t : TypeId) (o : Obj) : At4 w.heap.size x y z u ((w.alloc (.cells #[x, y, z, u] t)).alloc o) := by unfold At4; simp [go_sem]
theorem at4_new2b (w : World) (o : Obj) (x y z u : Value) (t : TypeId) : At4 (w.heap.size + 1) x y z u ((w.alloc o).alloc (.cells #[x, y, z, u] t)) := by unfold At4; simp [go_sem]
set_option maxRecDepth 100000 in
set_option maxHeartbeats 4000000 in
theorem finite_far {w K1 X1 S1 K2 X2 S2 D V : Int} {n1 n2 : Bool} (W : World) (hx : ¬ X1 < X2) (kd : IntKind.i64.wrap (X1 - X2) = D) (hd : 64 < D) (HN : Ct 170 #[.int .i64 w, .agg #[.bool n1, .int .i64 K1, .int .i64 X1, .int .u64 S1]] (.int .u64 V)) :
    Calls Tryz.prog 239 #[.int .i64 w, .agg #[.bool n1, .int .i64 K1, .int .i64 X1, .int .u64 S1], .agg #[.bool n2, .int .i64 K2, .int .i64 X2, .int .u64 S2]] W fun r W' => r = .returned (.int .u64 V) ∧ Below W.heap.size W W' := by
  go_enter Tryz.func239, Tryz.ntmps239
  go_wp2_with fail
  have HB := hide (below2 W (.cells #[.bool n1, .int .i64 K1, .int .i64 X1, .int .u64 S1] 37) (.cells #[.bool n2, .int .i64 K2, .int .i64 X2, .int .u64 S2] 37))
  refine (unhide HN _).mono ?_
  rintro _ w1 ⟨rfl, hb⟩
  have HB := hide (bthen (unhide HB) hb)
  clear hb
  go_wp2_with fail
  go_ret
  exact ⟨rfl, unhide HB⟩
set_option maxRecDepth 100000 in
set_option maxHeartbeats 4000000 in
theorem finite_al {w K1 X1 S1 K2 X2 S2 D h1 l1 h2 l2 h3 l3 V : Int} {n1 n2 : Bool} (W : World) (hx : ¬ X1 < X2) (kd : IntKind.i64.wrap (X1 - X2) = D) (hd : ¬ 64 < D) (HO1 : Ct 161 #[.int .u64 S1] (.agg #[.int .u64 h1, .int .u64 l1])) (HL : Ct 234 #[.agg #[.int .u64 h1, .int .u64 l1], .int .i64 D] (.agg #[.int .u64 h2, .int .u64 l2])) (HO2 : Ct 161 #[.int .u64 S2] (.agg #[.int .u64 h3, .int .u64 l3])) (HA0 : Ct 269 #[.int .i64 w, .bool n1, .agg #[.int .u64 h2, .int .u64 l2], .bool n2, .agg #[.int .u64 h3, .int .u64 l3], .int .i64 X2] (.int .u64 V)) :
    Calls Tryz.prog 239 #[.int .i64 w, .agg #[.bool n1, .int .i64 K1, .int .i64 X1, .int .u64 S1], .agg #[.bool n2, .int .i64 K2, .int .i64 X2, .int .u64 S2]] W fun r W' => r = .returned (.int .u64 V) ∧ Below W.heap.size W W' := by
  go_enter Tryz.func239, Tryz.ntmps239
  go_wp2_with fail
  have HB := hide ((below2 W (.cells #[.bool n1, .int .i64 K1, .int .i64 X1, .int .u64 S1] 37) (.cells #[.bool n2, .int .i64 K2, .int .i64 X2, .int .u64 S2] 37)).drew)
  have HA := hide ((at4_new2a W (.bool n1) (.int .i64 K1) (.int .i64 X1) (.int .u64 S1) 37 (.cells #[.bool n2, .int .i64 K2, .int .i64 X2, .int .u64 S2] 37)).below ((Below.refl _ _).drew))
  have HA2 := hide ((at4_new2b W (.cells #[.bool n1, .int .i64 K1, .int .i64 X1, .int .u64 S1] 37) (.bool n2) (.int .i64 K2) (.int .i64 X2) (.int .u64 S2) 37).below ((Below.refl _ _).drew))
  refine wp_region_held_drew (S := fun w' => (w'.cell? ⟨W.heap.size, 0, none⟩ = some (.bool n1) ∧ w'.cell? ⟨W.heap.size, 1, none⟩ = some (.int .i64 K1) ∧ w'.cell? ⟨W.heap.size, 2, none⟩ = some (.int .i64 X1) ∧ w'.cell? ⟨W.heap.size, 3, none⟩ = some (.int .u64 S1)) ∧ (w'.cell? ⟨W.heap.size + 1, 0, none⟩ = some (.bool n2) ∧ w'.cell? ⟨W.heap.size + 1, 1, none⟩ = some (.int .i64 K2) ∧ w'.cell? ⟨W.heap.size + 1, 2, none⟩ = some (.int .i64 X2) ∧ w'.cell? ⟨W.heap.size + 1, 3, none⟩ = some (.int .u64 S2))) (by kernel_rfl) ?_ (fun hHeld => ?_)
  · (try dsimp only)
    exact ⟨unhide HA, unhide HA2⟩
  refine lst0 17 (by kernel_rfl) ?_
  refine tkA 0 25 1 ?_
  refine tkA 1 26 3 ?_
  refine tkA 2 27 7 ?_
  refine tkA 3 28 15 ?_
  refine tkA 4 29 31 ?_
  refine tkA 6 31 95 ?_
  refine tkA 8 33 351 ?_
  refine tkA 9 34 863 ?_
  refine tkA 10 35 1887 ?_
  refine tkA 11 36 3935 ?_
  refine tkA 13 38 12127 ?_
  refine tkA 14 39 28511 ?_
  refine rdA 5 28543 (fun Kk hKk => ?_)
  go_simp
  refine (unhide HO1 _).mono ?_
  rintro _ w1 ⟨rfl, hbl⟩
  have HB := hide (bthen (unhide HB) hbl)
  have HA := hide ((unhide HA).below hbl)
  have HA2 := hide ((unhide HA2).below hbl)
  clear hbl
  (try go_wp2_with fail)
  refine hKk.out _ _ ?_ (fun hHeld => ?_)
  · (try dsimp only)
    exact ⟨unhide HA, unhide HA2⟩
  clear hKk Kk
  (try simp only [List.setIfInBounds_toArray, List.set_cons_zero, List.set_cons_succ])
  refine rdA 7 28671 (fun Kk hKk => ?_)
  go_simp
  refine (unhide HL _).mono ?_
  rintro _ w1 ⟨rfl, hbl⟩
  have HB := hide (bthen (unhide HB) hbl)
  have HA := hide ((unhide HA).below hbl)
  have HA2 := hide ((unhide HA2).below hbl)
  clear hbl
  (try go_wp2_with fail)
  refine hKk.out _ _ ?_ (fun hHeld => ?_)
  · (try dsimp only)
    exact ⟨unhide HA, unhide HA2⟩
  clear hKk Kk
  (try simp only [List.setIfInBounds_toArray, List.set_cons_zero, List.set_cons_succ])
  refine rdA 12 32767 (fun Kk hKk => ?_)
  go_simp
  refine (unhide HO2 _).mono ?_
  rintro _ w1 ⟨rfl, hbl⟩
  have HB := hide (bthen (unhide HB) hbl)
  have HA := hide ((unhide HA).below hbl)
  have HA2 := hide ((unhide HA2).below hbl)
  clear hbl
  (try go_wp2_with fail)
  refine hKk.out _ _ ?_ (fun hHeld => ?_)
  · (try dsimp only)
    exact ⟨unhide HA, unhide HA2⟩
  clear hKk Kk
  (try simp only [List.setIfInBounds_toArray, List.set_cons_zero, List.set_cons_succ])
  refine rdA 15 65535 (fun Kk hKk => ?_)
  go_simp
  refine (unhide HA0 _).mono ?_
  rintro _ w1 ⟨rfl, hbl⟩
  have HB := hide (bthen (unhide HB) hbl)
  have HA := hide ((unhide HA).below hbl)
  have HA2 := hide ((unhide HA2).below hbl)
  clear hbl
  (try go_wp2_with fail)
  refine hKk.out _ _ ?_ (fun hHeld => ?_)
  · (try dsimp only)
    exact ⟨unhide HA, unhide HA2⟩
  clear hKk Kk
  (try simp only [List.setIfInBounds_toArray, List.set_cons_zero, List.set_cons_succ])
  refine tkA 16 6 131071 ?_
  refine wpAnyH_done (by kernel_rfl) ?_ _
  go_wp2
  go_ret
  exact ⟨rfl, unhide HB⟩
set_option maxRecDepth 100000 in
set_option maxHeartbeats 4000000 in
theorem finite_far_s {w K1 X1 S1 K2 X2 S2 D V : Int} {n1 n2 : Bool} (W : World) (hx : X1 < X2) (kd : IntKind.i64.wrap (X2 - X1) = D) (hd : 64 < D) (HN : Ct 170 #[.int .i64 w, .agg #[.bool n2, .int .i64 K2, .int .i64 X2, .int .u64 S2]] (.int .u64 V)) :
    Calls Tryz.prog 239 #[.int .i64 w, .agg #[.bool n1, .int .i64 K1, .int .i64 X1, .int .u64 S1], .agg #[.bool n2, .int .i64 K2, .int .i64 X2, .int .u64 S2]] W fun r W' => r = .returned (.int .u64 V) ∧ Below W.heap.size W W' := by
  go_enter Tryz.func239, Tryz.ntmps239
  go_wp2_with fail
  have HB := hide (below2 W (.cells #[.bool n2, .int .i64 K2, .int .i64 X2, .int .u64 S2] 37) (.cells #[.bool n1, .int .i64 K1, .int .i64 X1, .int .u64 S1] 37))
  refine (unhide HN _).mono ?_
  rintro _ w1 ⟨rfl, hb⟩
  have HB := hide (bthen (unhide HB) hb)
  clear hb
  go_wp2_with fail
  go_ret
  exact ⟨rfl, unhide HB⟩
set_option maxRecDepth 100000 in
set_option maxHeartbeats 4000000 in
theorem finite_al_s {w K1 X1 S1 K2 X2 S2 D h1 l1 h2 l2 h3 l3 V : Int} {n1 n2 : Bool} (W : World) (hx : X1 < X2) (kd : IntKind.i64.wrap (X2 - X1) = D) (hd : ¬ 64 < D) (HO1 : Ct 161 #[.int .u64 S2] (.agg #[.int .u64 h1, .int .u64 l1])) (HL : Ct 234 #[.agg #[.int .u64 h1, .int .u64 l1], .int .i64 D] (.agg #[.int .u64 h2, .int .u64 l2])) (HO2 : Ct 161 #[.int .u64 S1] (.agg #[.int .u64 h3, .int .u64 l3])) (HA0 : Ct 269 #[.int .i64 w, .bool n2, .agg #[.int .u64 h2, .int .u64 l2], .bool n1, .agg #[.int .u64 h3, .int .u64 l3], .int .i64 X1] (.int .u64 V)) :
    Calls Tryz.prog 239 #[.int .i64 w, .agg #[.bool n1, .int .i64 K1, .int .i64 X1, .int .u64 S1], .agg #[.bool n2, .int .i64 K2, .int .i64 X2, .int .u64 S2]] W fun r W' => r = .returned (.int .u64 V) ∧ Below W.heap.size W W' := by
  go_enter Tryz.func239, Tryz.ntmps239
  go_wp2_with fail
  have HB := hide ((below2 W (.cells #[.bool n2, .int .i64 K2, .int .i64 X2, .int .u64 S2] 37) (.cells #[.bool n1, .int .i64 K1, .int .i64 X1, .int .u64 S1] 37)).drew)
  have HA := hide ((at4_new2a W (.bool n2) (.int .i64 K2) (.int .i64 X2) (.int .u64 S2) 37 (.cells #[.bool n1, .int .i64 K1, .int .i64 X1, .int .u64 S1] 37)).below ((Below.refl _ _).drew))
  have HA2 := hide ((at4_new2b W (.cells #[.bool n2, .int .i64 K2, .int .i64 X2, .int .u64 S2] 37) (.bool n1) (.int .i64 K1) (.int .i64 X1) (.int .u64 S1) 37).below ((Below.refl _ _).drew))
  refine wp_region_held_drew (S := fun w' => (w'.cell? ⟨W.heap.size, 0, none⟩ = some (.bool n2) ∧ w'.cell? ⟨W.heap.size, 1, none⟩ = some (.int .i64 K2) ∧ w'.cell? ⟨W.heap.size, 2, none⟩ = some (.int .i64 X2) ∧ w'.cell? ⟨W.heap.size, 3, none⟩ = some (.int .u64 S2)) ∧ (w'.cell? ⟨W.heap.size + 1, 0, none⟩ = some (.bool n1) ∧ w'.cell? ⟨W.heap.size + 1, 1, none⟩ = some (.int .i64 K1) ∧ w'.cell? ⟨W.heap.size + 1, 2, none⟩ = some (.int .i64 X1) ∧ w'.cell? ⟨W.heap.size + 1, 3, none⟩ = some (.int .u64 S1))) (by kernel_rfl) ?_ (fun hHeld => ?_)
  · (try dsimp only)
    exact ⟨unhide HA, unhide HA2⟩
  refine lst0 17 (by kernel_rfl) ?_
  refine tkA 0 25 1 ?_
  refine tkA 1 26 3 ?_
  refine tkA 2 27 7 ?_
  refine tkA 3 28 15 ?_
  refine tkA 4 29 31 ?_
  refine tkA 6 31 95 ?_
  refine tkA 8 33 351 ?_
  refine tkA 9 34 863 ?_
  refine tkA 10 35 1887 ?_
  refine tkA 11 36 3935 ?_
  refine tkA 13 38 12127 ?_
  refine tkA 14 39 28511 ?_
  refine rdA 5 28543 (fun Kk hKk => ?_)
  go_simp
  refine (unhide HO1 _).mono ?_
  rintro _ w1 ⟨rfl, hbl⟩
  have HB := hide (bthen (unhide HB) hbl)
  have HA := hide ((unhide HA).below hbl)
  have HA2 := hide ((unhide HA2).below hbl)
  clear hbl
  (try go_wp2_with fail)
  refine hKk.out _ _ ?_ (fun hHeld => ?_)
  · (try dsimp only)
    exact ⟨unhide HA, unhide HA2⟩
  clear hKk Kk
  (try simp only [List.setIfInBounds_toArray, List.set_cons_zero, List.set_cons_succ])
  refine rdA 7 28671 (fun Kk hKk => ?_)
  go_simp
  refine (unhide HL _).mono ?_
  rintro _ w1 ⟨rfl, hbl⟩
  have HB := hide (bthen (unhide HB) hbl)
  have HA := hide ((unhide HA).below hbl)
  have HA2 := hide ((unhide HA2).below hbl)
  clear hbl
  (try go_wp2_with fail)
  refine hKk.out _ _ ?_ (fun hHeld => ?_)
  · (try dsimp only)
    exact ⟨unhide HA, unhide HA2⟩
  clear hKk Kk
  (try simp only [List.setIfInBounds_toArray, List.set_cons_zero, List.set_cons_succ])
  refine rdA 12 32767 (fun Kk hKk => ?_)
  go_simp
  refine (unhide HO2 _).mono ?_
  rintro _ w1 ⟨rfl, hbl⟩
  have HB := hide (bthen (unhide HB) hbl)
  have HA := hide ((unhide HA).below hbl)
  have HA2 := hide ((unhide HA2).below hbl)
  clear hbl
  (try go_wp2_with fail)
  refine hKk.out _ _ ?_ (fun hHeld => ?_)
  · (try dsimp only)
    exact ⟨unhide HA, unhide HA2⟩
  clear hKk Kk
  (try simp only [List.setIfInBounds_toArray, List.set_cons_zero, List.set_cons_succ])
  refine rdA 15 65535 (fun Kk hKk => ?_)
  go_simp
  refine (unhide HA0 _).mono ?_
  rintro _ w1 ⟨rfl, hbl⟩
  have HB := hide (bthen (unhide HB) hbl)
  have HA := hide ((unhide HA).below hbl)
  have HA2 := hide ((unhide HA2).below hbl)
  clear hbl
  (try go_wp2_with fail)
  refine hKk.out _ _ ?_ (fun hHeld => ?_)
  · (try dsimp only)
    exact ⟨unhide HA, unhide HA2⟩
  clear hKk Kk
  (try simp only [List.setIfInBounds_toArray, List.set_cons_zero, List.set_cons_succ])
  refine tkA 16 6 131071 ?_
  refine wpAnyH_done (by kernel_rfl) ?_ _
  go_wp2
  go_ret
  exact ⟨rfl, unhide HB⟩
set_option maxRecDepth 100000 in
set_option maxHeartbeats 4000000 in
theorem plus_lt {w K1 X1 S1 K2 X2 S2 V : Int} {n1 n2 : Bool} (W : World) (hk : (K1 != K2) = true) (hl : K1 < K2) (HC : Ct 170 #[.int .i64 w, .agg #[.bool n2, .int .i64 K2, .int .i64 X2, .int .u64 S2]] (.int .u64 V)) :
    Calls Tryz.prog 162 #[.int .i64 w, .agg #[.bool n1, .int .i64 K1, .int .i64 X1, .int .u64 S1], .agg #[.bool n2, .int .i64 K2, .int .i64 X2, .int .u64 S2]] W fun r W' => r = .returned (.int .u64 V) ∧ Below W.heap.size W W' := by
  go_enter Tryz.func162, Tryz.ntmps162
  go_wp2_with fail
  have HB := hide (below2 W (.cells #[.bool n2, .int .i64 K2, .int .i64 X2, .int .u64 S2] 37) (.cells #[.bool n2, .int .i64 K2, .int .i64 X2, .int .u64 S2] 37))
  refine (unhide HC _).mono ?_
  rintro _ w1 ⟨rfl, hb⟩
  have HB := hide (bthen (unhide HB) hb)
  clear hb
  go_wp2_with fail
  go_ret
  exact ⟨rfl, unhide HB⟩
set_option maxRecDepth 100000 in
set_option maxHeartbeats 4000000 in
theorem plus_ge {w K1 X1 S1 K2 X2 S2 V : Int} {n1 n2 : Bool} (W : World) (hk : (K1 != K2) = true) (hl : ¬ K1 < K2) (HC : Ct 170 #[.int .i64 w, .agg #[.bool n1, .int .i64 K1, .int .i64 X1, .int .u64 S1]] (.int .u64 V)) :
    Calls Tryz.prog 162 #[.int .i64 w, .agg #[.bool n1, .int .i64 K1, .int .i64 X1, .int .u64 S1], .agg #[.bool n2, .int .i64 K2, .int .i64 X2, .int .u64 S2]] W fun r W' => r = .returned (.int .u64 V) ∧ Below W.heap.size W W' := by
  go_enter Tryz.func162, Tryz.ntmps162
  go_wp2_with fail
  have HB := hide (below2 W (.cells #[.bool n1, .int .i64 K1, .int .i64 X1, .int .u64 S1] 37) (.cells #[.bool n2, .int .i64 K2, .int .i64 X2, .int .u64 S2] 37))
  refine (unhide HC _).mono ?_
  rintro _ w1 ⟨rfl, hb⟩
  have HB := hide (bthen (unhide HB) hb)
  clear hb
  go_wp2_with fail
  go_ret
  exact ⟨rfl, unhide HB⟩
set_option maxRecDepth 100000 in
set_option maxHeartbeats 4000000 in
theorem plus_zt {w K1 X1 S1 K2 X2 S2 V : Int} {n2 : Bool} (W : World) (hk : (K1 != K2) = false) (k0 : (K1 == 0) = true) (HC : Ct 155 #[.int .i64 w, .bool n2] (.int .u64 V)) :
    Calls Tryz.prog 162 #[.int .i64 w, .agg #[.bool true, .int .i64 K1, .int .i64 X1, .int .u64 S1], .agg #[.bool n2, .int .i64 K2, .int .i64 X2, .int .u64 S2]] W fun r W' => r = .returned (.int .u64 V) ∧ Below W.heap.size W W' := by
  go_enter Tryz.func162, Tryz.ntmps162
  go_wp2_with fail
  have HB := hide (below2 W (.cells #[.bool true, .int .i64 K1, .int .i64 X1, .int .u64 S1] 37) (.cells #[.bool n2, .int .i64 K2, .int .i64 X2, .int .u64 S2] 37))
  refine (unhide HC _).mono ?_
  rintro _ w1 ⟨rfl, hb⟩
  have HB := hide (bthen (unhide HB) hb)
  clear hb
  go_wp2_with fail
  go_ret
  exact ⟨rfl, unhide HB⟩
set_option maxRecDepth 100000 in
set_option maxHeartbeats 4000000 in
theorem plus_zf {w K1 X1 S1 K2 X2 S2 V : Int} {n2 : Bool} (W : World) (hk : (K1 != K2) = false) (k0 : (K1 == 0) = true) (HC : Ct 155 #[.int .i64 w, .bool false] (.int .u64 V)) :
    Calls Tryz.prog 162 #[.int .i64 w, .agg #[.bool false, .int .i64 K1, .int .i64 X1, .int .u64 S1], .agg #[.bool n2, .int .i64 K2, .int .i64 X2, .int .u64 S2]] W fun r W' => r = .returned (.int .u64 V) ∧ Below W.heap.size W W' := by
  go_enter Tryz.func162, Tryz.ntmps162
  go_wp2_with fail
  have HB := hide (below2 W (.cells #[.bool false, .int .i64 K1, .int .i64 X1, .int .u64 S1] 37) (.cells #[.bool n2, .int .i64 K2, .int .i64 X2, .int .u64 S2] 37))
  refine (unhide HC _).mono ?_
  rintro _ w1 ⟨rfl, hb⟩
  have HB := hide (bthen (unhide HB) hb)
  clear hb
  go_wp2_with fail
  go_ret
  exact ⟨rfl, unhide HB⟩
set_option maxRecDepth 100000 in
set_option maxHeartbeats 4000000 in
theorem plus_is {w K1 X1 S1 K2 X2 S2 V : Int} {n1 n2 : Bool} (W : World) (hk : (K1 != K2) = false) (k0 : (K1 == 0) = false) (k2 : (K1 == 2) = true) (hn : (n1 == n2) = true) (HC : Ct 157 #[.int .i64 w, .bool n1] (.int .u64 V)) :
    Calls Tryz.prog 162 #[.int .i64 w, .agg #[.bool n1, .int .i64 K1, .int .i64 X1, .int .u64 S1], .agg #[.bool n2, .int .i64 K2, .int .i64 X2, .int .u64 S2]] W fun r W' => r = .returned (.int .u64 V) ∧ Below W.heap.size W W' := by
  go_enter Tryz.func162, Tryz.ntmps162
  go_wp2_with fail
  have HB := hide (below2 W (.cells #[.bool n1, .int .i64 K1, .int .i64 X1, .int .u64 S1] 37) (.cells #[.bool n2, .int .i64 K2, .int .i64 X2, .int .u64 S2] 37))
  refine (unhide HC _).mono ?_
  rintro _ w1 ⟨rfl, hb⟩
  have HB := hide (bthen (unhide HB) hb)
  clear hb
  go_wp2_with fail
  go_ret
  exact ⟨rfl, unhide HB⟩
set_option maxRecDepth 100000 in
set_option maxHeartbeats 4000000 in
theorem plus_id {w K1 X1 S1 K2 X2 S2 V : Int} {n1 n2 : Bool} (W : World) (hk : (K1 != K2) = false) (k0 : (K1 == 0) = false) (k2 : (K1 == 2) = true) (hn : (n1 == n2) = false) (HC : Ct 156 #[.int .i64 w] (.int .u64 V)) :
    Calls Tryz.prog 162 #[.int .i64 w, .agg #[.bool n1, .int .i64 K1, .int .i64 X1, .int .u64 S1], .agg #[.bool n2, .int .i64 K2, .int .i64 X2, .int .u64 S2]] W fun r W' => r = .returned (.int .u64 V) ∧ Below W.heap.size W W' := by
  go_enter Tryz.func162, Tryz.ntmps162
  go_wp2_with fail
  have HB := hide (below2 W (.cells #[.bool n1, .int .i64 K1, .int .i64 X1, .int .u64 S1] 37) (.cells #[.bool n2, .int .i64 K2, .int .i64 X2, .int .u64 S2] 37))
  refine (unhide HC _).mono ?_
  rintro _ w1 ⟨rfl, hb⟩
  have HB := hide (bthen (unhide HB) hb)
  clear hb
  go_wp2_with fail
  go_ret
  exact ⟨rfl, unhide HB⟩
set_option maxRecDepth 100000 in
set_option maxHeartbeats 4000000 in
theorem plus_fi {w K1 X1 S1 K2 X2 S2 V : Int} {n1 n2 : Bool} (W : World) (hk : (K1 != K2) = false) (k0 : (K1 == 0) = false) (k2 : (K1 == 2) = false) (k1 : (K1 == 1) = true) (HC : Ct 239 #[.int .i64 w, .agg #[.bool n1, .int .i64 K1, .int .i64 X1, .int .u64 S1], .agg #[.bool n2, .int .i64 K2, .int .i64 X2, .int .u64 S2]] (.int .u64 V)) :
    Calls Tryz.prog 162 #[.int .i64 w, .agg #[.bool n1, .int .i64 K1, .int .i64 X1, .int .u64 S1], .agg #[.bool n2, .int .i64 K2, .int .i64 X2, .int .u64 S2]] W fun r W' => r = .returned (.int .u64 V) ∧ Below W.heap.size W W' := by
  go_enter Tryz.func162, Tryz.ntmps162
  go_wp2_with fail
  have HB := hide (below2 W (.cells #[.bool n1, .int .i64 K1, .int .i64 X1, .int .u64 S1] 37) (.cells #[.bool n2, .int .i64 K2, .int .i64 X2, .int .u64 S2] 37))
  refine (unhide HC _).mono ?_
  rintro _ w1 ⟨rfl, hb⟩
  have HB := hide (bthen (unhide HB) hb)
  clear hb
  go_wp2_with fail
  go_ret
  exact ⟨rfl, unhide HB⟩
set_option maxRecDepth 100000 in
set_option maxHeartbeats 4000000 in
theorem plus_na {w K1 X1 S1 K2 X2 S2 V : Int} {n1 n2 : Bool} (W : World) (hk : (K1 != K2) = false) (k0 : (K1 == 0) = false) (k2 : (K1 == 2) = false) (k1 : (K1 == 1) = false) (HC : Ct 156 #[.int .i64 w] (.int .u64 V)) :
    Calls Tryz.prog 162 #[.int .i64 w, .agg #[.bool n1, .int .i64 K1, .int .i64 X1, .int .u64 S1], .agg #[.bool n2, .int .i64 K2, .int .i64 X2, .int .u64 S2]] W fun r W' => r = .returned (.int .u64 V) ∧ Below W.heap.size W W' := by
  go_enter Tryz.func162, Tryz.ntmps162
  go_wp2_with fail
  have HB := hide (below2 W (.cells #[.bool n1, .int .i64 K1, .int .i64 X1, .int .u64 S1] 37) (.cells #[.bool n2, .int .i64 K2, .int .i64 X2, .int .u64 S2] 37))
  refine (unhide HC _).mono ?_
  rintro _ w1 ⟨rfl, hb⟩
  have HB := hide (bthen (unhide HB) hb)
  clear hb
  go_wp2_with fail
  go_ret
  exact ⟨rfl, unhide HB⟩
set_option maxRecDepth 100000 in
set_option maxHeartbeats 4000000 in
theorem sumSub_l {w x y K1 X1 S1 K2 X2 S2 V : Int} {n1 n2 : Bool} (W : World) (HO1 : Ct 15 #[.int .i64 w, .int .u64 x] (.agg #[.bool n1, .int .i64 K1, .int .i64 X1, .int .u64 S1])) (HO2 : Ct 15 #[.int .i64 w, .int .u64 y] (.agg #[.bool n2, .int .i64 K2, .int .i64 X2, .int .u64 S2])) (HP : Ct 162 #[.int .i64 w, .agg #[.bool n1, .int .i64 K1, .int .i64 X1, .int .u64 S1], .agg #[.bool (!n2), .int .i64 K2, .int .i64 X2, .int .u64 S2]] (.int .u64 V)) :
    Calls Tryz.prog 86 #[.int .i64 w, .int .u64 x, .int .u64 y] W fun r W' => r = .returned (.int .u64 V) ∧ Below W.heap.size W W' := by
  go_enter Tryz.func86, Tryz.ntmps86
  go_wp2_with fail
  refine (unhide HO2 _).mono ?_
  rintro _ w1 ⟨rfl, hb⟩
  go_wp2_with fail
  have HB := hide ((balloc hb (.cells #[.bool (!n2), .int .i64 K2, .int .i64 X2, .int .u64 S2] 37)).drew)
  clear hb
  have HA := hide ((at4_new w1 (.bool (!n2)) (.int .i64 K2) (.int .i64 X2) (.int .u64 S2) 37).below ((Below.refl _ _).drew))
  refine wp_region_held_drew (S := fun w' => w'.cell? ⟨w1.heap.size, 0, none⟩ = some (.bool (!n2)) ∧ w'.cell? ⟨w1.heap.size, 1, none⟩ = some (.int .i64 K2) ∧ w'.cell? ⟨w1.heap.size, 2, none⟩ = some (.int .i64 X2) ∧ w'.cell? ⟨w1.heap.size, 3, none⟩ = some (.int .u64 S2)) (by kernel_rfl) ?_ (fun hHeld => ?_)
  · (try dsimp only)
    exact unhide HA
  refine lst0 7 (by kernel_rfl) ?_
  refine tkA 0 15 1 ?_
  refine tkA 1 16 3 ?_
  refine tkA 2 17 7 ?_
  refine tkA 4 19 23 ?_
  refine rdA 3 31 (fun Kk hKk => ?_)
  go_simp
  refine (unhide HO1 _).mono ?_
  rintro _ w2 ⟨rfl, hbl⟩
  have HB := hide (bthen (unhide HB) hbl)
  have HA := hide ((unhide HA).below hbl)
  clear hbl
  (try go_wp2_with fail)
  refine hKk.out _ _ ?_ (fun hHeld => ?_)
  · (try dsimp only)
    exact unhide HA
  clear hKk Kk
  (try simp only [List.setIfInBounds_toArray, List.set_cons_zero, List.set_cons_succ])
  refine rdA 5 63 (fun Kk hKk => ?_)
  go_simp
  refine (unhide HP _).mono ?_
  rintro _ w2 ⟨rfl, hbl⟩
  have HB := hide (bthen (unhide HB) hbl)
  have HA := hide ((unhide HA).below hbl)
  clear hbl
  (try go_wp2_with fail)
  refine hKk.out _ _ ?_ (fun hHeld => ?_)
  · (try dsimp only)
    exact unhide HA
  clear hKk Kk
  (try simp only [List.setIfInBounds_toArray, List.set_cons_zero, List.set_cons_succ])
  refine tkA 6 6 127 ?_
  refine wpAnyH_done (by kernel_rfl) ?_ _
  go_wp2
  go_ret
  exact ⟨rfl, unhide HB⟩
set_option maxRecDepth 100000 in
set_option maxHeartbeats 4000000 in
theorem sumAdd_l {w x y K1 X1 S1 K2 X2 S2 V : Int} {n1 n2 : Bool} (W : World) (HO1 : Ct 15 #[.int .i64 w, .int .u64 x] (.agg #[.bool n1, .int .i64 K1, .int .i64 X1, .int .u64 S1])) (HO2 : Ct 15 #[.int .i64 w, .int .u64 y] (.agg #[.bool n2, .int .i64 K2, .int .i64 X2, .int .u64 S2])) (HP : Ct 162 #[.int .i64 w, .agg #[.bool n1, .int .i64 K1, .int .i64 X1, .int .u64 S1], .agg #[.bool n2, .int .i64 K2, .int .i64 X2, .int .u64 S2]] (.int .u64 V)) :
    Calls Tryz.prog 85 #[.int .i64 w, .int .u64 x, .int .u64 y] W fun r W' => r = .returned (.int .u64 V) ∧ Below W.heap.size W W' := by
  go_enter Tryz.func85, Tryz.ntmps85
  go_wp2_with fail
  refine (unhide HO1 _).mono ?_
  rintro _ w1 ⟨rfl, hb1⟩
  go_wp2_with fail
  refine (unhide HO2 _).mono ?_
  rintro _ w2 ⟨rfl, hb2⟩
  go_wp2_with fail
  refine (unhide HP _).mono ?_
  rintro _ w3 ⟨rfl, hb3⟩
  go_wp2_with fail
  go_ret
  exact ⟨rfl, bthen (bthen hb1 hb2) hb3⟩
end Go.Proofs.YtpbgpdmffejdgaaGreatDoor
