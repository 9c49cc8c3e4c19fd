/- ChC. -/
import Derived.Test.YtmbkpmcmhmldgaaDoorB20
namespace Go.Proofs.YtmbkpmcmhmldgaaDoor
open Go.RowKit
open Go.Proofs.YtmbkpmcmhmldgaaDoor.W

set_option maxHeartbeats 4000000 in
set_option maxRecDepth 100000 in
theorem chopped_no {w k x : Int} {s : Bool} (W : World) (HK : Ct 16 #[.int .i64 k] (.bool false)) :
    Calls Tryd.prog 10 #[.int .i64 w, .int .i64 k, .int .u64 x, .bool s] W fun r W' => r = .returned (.tuple #[.int .u64 0, .int .i64 0]) ∧ Below W.heap.size W W' := by
  have HB := hide (Below.refl W.heap.size W)
  go_enter Tryd.func10, Tryd.ntmps10
  go_wp2_with fail
  refine (unhide HK _).mono ?_
  rintro _ w1 ⟨rfl, hb⟩
  have HB := hide (bthen (unhide HB) hb)
  clear hb
  go_wp2_with fail
  go_ret2
  exact ⟨rfl, unhide HB⟩
theorem at2_mk (w : World) (x y : Value) (t : TypeId) : At2 w.heap.size x y (w.alloc (.cells #[x, y] t)).drew := by unfold At2; simp [go_sem]
set_option maxHeartbeats 4000000 in
set_option maxRecDepth 100000 in
theorem chopped_nan_t {w k x X S L h : Int} {s : Bool} (W : World) (HK : Ct 16 #[.int .i64 k] (.bool true)) (HO : Ct 17 #[.int .i64 w, .int .u64 x] (.agg #[.bool true, .int .i64 3, .int .i64 X, .int .u64 S])) (HE : Ct 18 #[.int .i64 k, .bool s] (.tuple #[.int .u64 L, .int .u64 h])) :
    Calls Tryd.prog 10 #[.int .i64 w, .int .i64 k, .int .u64 x, .bool s] W fun r W' => r = .returned (.tuple #[.int .u64 0, .int .i64 4]) ∧ Below W.heap.size W W' := by
  have HB := hide (Below.refl W.heap.size W)
  go_enter Tryd.func10, Tryd.ntmps10
  go_wp2_with fail
  refine (unhide HK _).mono ?_
  rintro _ w1 ⟨rfl, hb⟩
  have HB := hide (bthen (unhide HB) hb)
  clear hb
  go_wp2_with fail
  refine (unhide HO _).mono ?_
  rintro _ w2 ⟨rfl, hb⟩
  have HB := hide (balloc (bthen (unhide HB) hb) (.cells #[.bool true, .int .i64 3, .int .i64 X, .int .u64 S] 40))
  have HA := hide (at4_new w2 (.bool true) (.int .i64 3) (.int .i64 X) (.int .u64 S) 40)
  clear hb
  go_wp2_with fail
  refine (unhide HE _).mono ?_
  rintro _ w3 ⟨rfl, hb⟩
  have HB := hide (bthen (unhide HB) hb)
  have HA := hide ((unhide HA).below hb)
  clear hb
  obtain ⟨c0, c1, c2, c3⟩ := unhide HA
  go_wp2_with fail
  go_ret2
  exact ⟨rfl, unhide HB⟩
set_option maxHeartbeats 4000000 in
set_option maxRecDepth 100000 in
theorem chopped_inf_t {w k x X S L h : Int} {s : Bool} (W : World) (HK : Ct 16 #[.int .i64 k] (.bool true)) (HO : Ct 17 #[.int .i64 w, .int .u64 x] (.agg #[.bool true, .int .i64 2, .int .i64 X, .int .u64 S])) (HE : Ct 18 #[.int .i64 k, .bool s] (.tuple #[.int .u64 L, .int .u64 h])) :
    Calls Tryd.prog 10 #[.int .i64 w, .int .i64 k, .int .u64 x, .bool s] W fun r W' => r = .returned (.tuple #[.int .u64 L, .int .i64 3]) ∧ Below W.heap.size W W' := by
  have HB := hide (Below.refl W.heap.size W)
  go_enter Tryd.func10, Tryd.ntmps10
  go_wp2_with fail
  refine (unhide HK _).mono ?_
  rintro _ w1 ⟨rfl, hb⟩
  have HB := hide (bthen (unhide HB) hb)
  clear hb
  go_wp2_with fail
  refine (unhide HO _).mono ?_
  rintro _ w2 ⟨rfl, hb⟩
  have HB := hide (balloc (bthen (unhide HB) hb) (.cells #[.bool true, .int .i64 2, .int .i64 X, .int .u64 S] 40))
  have HA := hide (at4_new w2 (.bool true) (.int .i64 2) (.int .i64 X) (.int .u64 S) 40)
  clear hb
  go_wp2_with fail
  refine (unhide HE _).mono ?_
  rintro _ w3 ⟨rfl, hb⟩
  have HB := hide (bthen (unhide HB) hb)
  have HA := hide ((unhide HA).below hb)
  clear hb
  obtain ⟨c0, c1, c2, c3⟩ := unhide HA
  go_wp2_with fail
  go_ret2
  exact ⟨rfl, unhide HB⟩
set_option maxHeartbeats 4000000 in
set_option maxRecDepth 100000 in
theorem chopped_le_t {w k x X S L h a1 a0 e1 e0 c V : Int} {s : Bool} (W : World) (HK : Ct 16 #[.int .i64 k] (.bool true)) (HO : Ct 17 #[.int .i64 w, .int .u64 x] (.agg #[.bool true, .int .i64 1, .int .i64 X, .int .u64 S])) (HE : Ct 18 #[.int .i64 k, .bool s] (.tuple #[.int .u64 L, .int .u64 h])) (HM : Ct 19 #[.agg #[.bool true, .int .i64 1, .int .i64 X, .int .u64 S]] (.agg #[.int .u64 a1, .int .u64 a0])) (HF : Ct 21 #[.int .u64 L] (.agg #[.int .u64 e1, .int .u64 e0])) (HC : Ct 20 #[.agg #[.int .u64 a1, .int .u64 a0], .agg #[.int .u64 e1, .int .u64 e0]] (.int .i64 c)) (g : c ≤ 0) (HS : Ct 22 #[.int .i64 k, .bool true, .int .u64 a0] (.int .u64 V)) :
    Calls Tryd.prog 10 #[.int .i64 w, .int .i64 k, .int .u64 x, .bool s] W fun r W' => r = .returned (.tuple #[.int .u64 V, .int .i64 0]) ∧ Below W.heap.size W W' := by
  have HB := hide (Below.refl W.heap.size W)
  go_enter Tryd.func10, Tryd.ntmps10
  go_wp2_with fail
  refine (unhide HK _).mono ?_
  rintro _ w1 ⟨rfl, hb⟩
  have HB := hide (bthen (unhide HB) hb)
  clear hb
  go_wp2_with fail
  refine (unhide HO _).mono ?_
  rintro _ w2 ⟨rfl, hb⟩
  have HB := hide (balloc (bthen (unhide HB) hb) (.cells #[.bool true, .int .i64 1, .int .i64 X, .int .u64 S] 40))
  have HA := hide (at4_new w2 (.bool true) (.int .i64 1) (.int .i64 X) (.int .u64 S) 40)
  clear hb
  go_wp2_with fail
  refine (unhide HE _).mono ?_
  rintro _ w3 ⟨rfl, hb⟩
  have HB := hide (bthen (unhide HB) hb)
  have HA := hide ((unhide HA).below hb)
  clear hb
  obtain ⟨c0, c1, c2, c3⟩ := unhide HA
  go_wp2_with fail
  clear c0 c1 c2 c3
  refine (unhide HM _).mono ?_
  rintro _ w4 ⟨rfl, hb⟩
  have HB := hide (bthen (unhide HB) hb)
  have HA := hide ((unhide HA).below hb)
  clear hb
  have HB := hide (balloc (unhide HB) (.cells #[.int .u64 a1, .int .u64 a0] 45)).drew
  have HA := hide ((unhide HA).below (below1 w4 (.cells #[.int .u64 a1, .int .u64 a0] 45)).drew)
  have H2 := hide (at2_mk w4 (.int .u64 a1) (.int .u64 a0) 45)
  go_wp2_with fail
  refine wp_region_held_drew (S := fun w' => (w'.cell? ⟨w4.heap.size, 0, none⟩ = some (.int .u64 a1) ∧ w'.cell? ⟨w4.heap.size, 1, none⟩ = some (.int .u64 a0))) (by kernel_rfl) ?_ (fun hHeld => ?_)
  · (try dsimp only)
    exact unhide H2
  refine lst0 5 (by kernel_rfl) ?_
  refine tkA 0 39 1 ?_
  refine tkA 1 40 3 ?_
  refine rdA 2 7 (fun Kk hKk => ?_)
  go_simp
  refine (unhide HF _).mono ?_
  rintro _ w5 ⟨rfl, hb⟩
  have HB := hide (bthen (unhide HB) hb)
  have HA := hide ((unhide HA).below hb)
  have H2 := hide ((unhide H2).below hb)
  clear hb
  (try go_wp2_with fail)
  refine hKk.out _ _ ?_ (fun hHeld => ?_)
  · (try dsimp only)
    exact unhide H2
  clear hKk Kk
  (try simp only [List.setIfInBounds_toArray, List.set_cons_zero, List.set_cons_succ])
  refine rdA 3 15 (fun Kk hKk => ?_)
  go_simp
  refine (unhide HC _).mono ?_
  rintro _ w6 ⟨rfl, hb⟩
  have HB := hide (bthen (unhide HB) hb)
  have HA := hide ((unhide HA).below hb)
  have H2 := hide ((unhide H2).below hb)
  clear hb
  (try go_wp2_with fail)
  refine hKk.out _ _ ?_ (fun hHeld => ?_)
  · (try dsimp only)
    exact unhide H2
  clear hKk Kk
  (try simp only [List.setIfInBounds_toArray, List.set_cons_zero, List.set_cons_succ])
  refine tkA 4 43 31 ?_
  refine wpAnyH_done (by kernel_rfl) ?_ _
  clear hHeld
  obtain ⟨c0, c1, c2, c3⟩ := unhide HA
  obtain ⟨d0, d1⟩ := unhide H2
  go_wp2_with fail
  clear c0 c1 c2 c3 d0 d1
  refine (unhide HS _).mono ?_
  rintro _ w7 ⟨rfl, hb⟩
  have HB := hide (bthen (unhide HB) hb)
  clear hb
  go_wp2_with fail
  go_ret2
  exact ⟨rfl, unhide HB⟩
set_option maxHeartbeats 4000000 in
set_option maxRecDepth 100000 in
theorem chopped_gt_t {w k x X S L h a1 a0 e1 e0 c : Int} {s : Bool} (W : World) (HK : Ct 16 #[.int .i64 k] (.bool true)) (HO : Ct 17 #[.int .i64 w, .int .u64 x] (.agg #[.bool true, .int .i64 1, .int .i64 X, .int .u64 S])) (HE : Ct 18 #[.int .i64 k, .bool s] (.tuple #[.int .u64 L, .int .u64 h])) (HM : Ct 19 #[.agg #[.bool true, .int .i64 1, .int .i64 X, .int .u64 S]] (.agg #[.int .u64 a1, .int .u64 a0])) (HF : Ct 21 #[.int .u64 L] (.agg #[.int .u64 e1, .int .u64 e0])) (HC : Ct 20 #[.agg #[.int .u64 a1, .int .u64 a0], .agg #[.int .u64 e1, .int .u64 e0]] (.int .i64 c)) (g : ¬ c ≤ 0) :
    Calls Tryd.prog 10 #[.int .i64 w, .int .i64 k, .int .u64 x, .bool s] W fun r W' => r = .returned (.tuple #[.int .u64 L, .int .i64 3]) ∧ Below W.heap.size W W' := by
  have HB := hide (Below.refl W.heap.size W)
  go_enter Tryd.func10, Tryd.ntmps10
  go_wp2_with fail
  refine (unhide HK _).mono ?_
  rintro _ w1 ⟨rfl, hb⟩
  have HB := hide (bthen (unhide HB) hb)
  clear hb
  go_wp2_with fail
  refine (unhide HO _).mono ?_
  rintro _ w2 ⟨rfl, hb⟩
  have HB := hide (balloc (bthen (unhide HB) hb) (.cells #[.bool true, .int .i64 1, .int .i64 X, .int .u64 S] 40))
  have HA := hide (at4_new w2 (.bool true) (.int .i64 1) (.int .i64 X) (.int .u64 S) 40)
  clear hb
  go_wp2_with fail
  refine (unhide HE _).mono ?_
  rintro _ w3 ⟨rfl, hb⟩
  have HB := hide (bthen (unhide HB) hb)
  have HA := hide ((unhide HA).below hb)
  clear hb
  obtain ⟨c0, c1, c2, c3⟩ := unhide HA
  go_wp2_with fail
  clear c0 c1 c2 c3
  refine (unhide HM _).mono ?_
  rintro _ w4 ⟨rfl, hb⟩
  have HB := hide (bthen (unhide HB) hb)
  have HA := hide ((unhide HA).below hb)
  clear hb
  have HB := hide (balloc (unhide HB) (.cells #[.int .u64 a1, .int .u64 a0] 45)).drew
  have HA := hide ((unhide HA).below (below1 w4 (.cells #[.int .u64 a1, .int .u64 a0] 45)).drew)
  have H2 := hide (at2_mk w4 (.int .u64 a1) (.int .u64 a0) 45)
  go_wp2_with fail
  refine wp_region_held_drew (S := fun w' => (w'.cell? ⟨w4.heap.size, 0, none⟩ = some (.int .u64 a1) ∧ w'.cell? ⟨w4.heap.size, 1, none⟩ = some (.int .u64 a0))) (by kernel_rfl) ?_ (fun hHeld => ?_)
  · (try dsimp only)
    exact unhide H2
  refine lst0 5 (by kernel_rfl) ?_
  refine tkA 0 39 1 ?_
  refine tkA 1 40 3 ?_
  refine rdA 2 7 (fun Kk hKk => ?_)
  go_simp
  refine (unhide HF _).mono ?_
  rintro _ w5 ⟨rfl, hb⟩
  have HB := hide (bthen (unhide HB) hb)
  have HA := hide ((unhide HA).below hb)
  have H2 := hide ((unhide H2).below hb)
  clear hb
  (try go_wp2_with fail)
  refine hKk.out _ _ ?_ (fun hHeld => ?_)
  · (try dsimp only)
    exact unhide H2
  clear hKk Kk
  (try simp only [List.setIfInBounds_toArray, List.set_cons_zero, List.set_cons_succ])
  refine rdA 3 15 (fun Kk hKk => ?_)
  go_simp
  refine (unhide HC _).mono ?_
  rintro _ w6 ⟨rfl, hb⟩
  have HB := hide (bthen (unhide HB) hb)
  have HA := hide ((unhide HA).below hb)
  have H2 := hide ((unhide H2).below hb)
  clear hb
  (try go_wp2_with fail)
  refine hKk.out _ _ ?_ (fun hHeld => ?_)
  · (try dsimp only)
    exact unhide H2
  clear hKk Kk
  (try simp only [List.setIfInBounds_toArray, List.set_cons_zero, List.set_cons_succ])
  refine tkA 4 43 31 ?_
  refine wpAnyH_done (by kernel_rfl) ?_ _
  clear hHeld
  go_wp2_with fail
  go_ret2
  exact ⟨rfl, unhide HB⟩
set_option maxHeartbeats 4000000 in
set_option maxRecDepth 100000 in
theorem chopped_zero_t {w k x X S L h : Int} {s : Bool} (W : World) (HK : Ct 16 #[.int .i64 k] (.bool true)) (HO : Ct 17 #[.int .i64 w, .int .u64 x] (.agg #[.bool true, .int .i64 0, .int .i64 X, .int .u64 S])) (HE : Ct 18 #[.int .i64 k, .bool s] (.tuple #[.int .u64 L, .int .u64 h])) :
    Calls Tryd.prog 10 #[.int .i64 w, .int .i64 k, .int .u64 x, .bool s] W fun r W' => r = .returned (.tuple #[.int .u64 0, .int .i64 0]) ∧ Below W.heap.size W W' := by
  have HB := hide (Below.refl W.heap.size W)
  go_enter Tryd.func10, Tryd.ntmps10
  go_wp2_with fail
  refine (unhide HK _).mono ?_
  rintro _ w1 ⟨rfl, hb⟩
  have HB := hide (bthen (unhide HB) hb)
  clear hb
  go_wp2_with fail
  refine (unhide HO _).mono ?_
  rintro _ w2 ⟨rfl, hb⟩
  have HB := hide (balloc (bthen (unhide HB) hb) (.cells #[.bool true, .int .i64 0, .int .i64 X, .int .u64 S] 40))
  have HA := hide (at4_new w2 (.bool true) (.int .i64 0) (.int .i64 X) (.int .u64 S) 40)
  clear hb
  go_wp2_with fail
  refine (unhide HE _).mono ?_
  rintro _ w3 ⟨rfl, hb⟩
  have HB := hide (bthen (unhide HB) hb)
  have HA := hide ((unhide HA).below hb)
  clear hb
  obtain ⟨c0, c1, c2, c3⟩ := unhide HA
  go_wp2_with fail
  go_ret2
  exact ⟨rfl, unhide HB⟩
set_option maxHeartbeats 4000000 in
set_option maxRecDepth 100000 in
theorem chopped_nan_f {w k x X S L h : Int} {s : Bool} (W : World) (HK : Ct 16 #[.int .i64 k] (.bool true)) (HO : Ct 17 #[.int .i64 w, .int .u64 x] (.agg #[.bool false, .int .i64 3, .int .i64 X, .int .u64 S])) (HE : Ct 18 #[.int .i64 k, .bool s] (.tuple #[.int .u64 L, .int .u64 h])) :
    Calls Tryd.prog 10 #[.int .i64 w, .int .i64 k, .int .u64 x, .bool s] W fun r W' => r = .returned (.tuple #[.int .u64 0, .int .i64 4]) ∧ Below W.heap.size W W' := by
  have HB := hide (Below.refl W.heap.size W)
  go_enter Tryd.func10, Tryd.ntmps10
  go_wp2_with fail
  refine (unhide HK _).mono ?_
  rintro _ w1 ⟨rfl, hb⟩
  have HB := hide (bthen (unhide HB) hb)
  clear hb
  go_wp2_with fail
  refine (unhide HO _).mono ?_
  rintro _ w2 ⟨rfl, hb⟩
  have HB := hide (balloc (bthen (unhide HB) hb) (.cells #[.bool false, .int .i64 3, .int .i64 X, .int .u64 S] 40))
  have HA := hide (at4_new w2 (.bool false) (.int .i64 3) (.int .i64 X) (.int .u64 S) 40)
  clear hb
  go_wp2_with fail
  refine (unhide HE _).mono ?_
  rintro _ w3 ⟨rfl, hb⟩
  have HB := hide (bthen (unhide HB) hb)
  have HA := hide ((unhide HA).below hb)
  clear hb
  obtain ⟨c0, c1, c2, c3⟩ := unhide HA
  go_wp2_with fail
  go_ret2
  exact ⟨rfl, unhide HB⟩
set_option maxHeartbeats 4000000 in
set_option maxRecDepth 100000 in
theorem chopped_inf_f {w k x X S L h : Int} {s : Bool} (W : World) (HK : Ct 16 #[.int .i64 k] (.bool true)) (HO : Ct 17 #[.int .i64 w, .int .u64 x] (.agg #[.bool false, .int .i64 2, .int .i64 X, .int .u64 S])) (HE : Ct 18 #[.int .i64 k, .bool s] (.tuple #[.int .u64 L, .int .u64 h])) :
    Calls Tryd.prog 10 #[.int .i64 w, .int .i64 k, .int .u64 x, .bool s] W fun r W' => r = .returned (.tuple #[.int .u64 h, .int .i64 3]) ∧ Below W.heap.size W W' := by
  have HB := hide (Below.refl W.heap.size W)
  go_enter Tryd.func10, Tryd.ntmps10
  go_wp2_with fail
  refine (unhide HK _).mono ?_
  rintro _ w1 ⟨rfl, hb⟩
  have HB := hide (bthen (unhide HB) hb)
  clear hb
  go_wp2_with fail
  refine (unhide HO _).mono ?_
  rintro _ w2 ⟨rfl, hb⟩
  have HB := hide (balloc (bthen (unhide HB) hb) (.cells #[.bool false, .int .i64 2, .int .i64 X, .int .u64 S] 40))
  have HA := hide (at4_new w2 (.bool false) (.int .i64 2) (.int .i64 X) (.int .u64 S) 40)
  clear hb
  go_wp2_with fail
  refine (unhide HE _).mono ?_
  rintro _ w3 ⟨rfl, hb⟩
  have HB := hide (bthen (unhide HB) hb)
  have HA := hide ((unhide HA).below hb)
  clear hb
  obtain ⟨c0, c1, c2, c3⟩ := unhide HA
  go_wp2_with fail
  go_ret2
  exact ⟨rfl, unhide HB⟩
set_option maxHeartbeats 4000000 in
set_option maxRecDepth 100000 in
theorem chopped_le_f {w k x X S L h a1 a0 e1 e0 c V : Int} {s : Bool} (W : World) (HK : Ct 16 #[.int .i64 k] (.bool true)) (HO : Ct 17 #[.int .i64 w, .int .u64 x] (.agg #[.bool false, .int .i64 1, .int .i64 X, .int .u64 S])) (HE : Ct 18 #[.int .i64 k, .bool s] (.tuple #[.int .u64 L, .int .u64 h])) (HM : Ct 19 #[.agg #[.bool false, .int .i64 1, .int .i64 X, .int .u64 S]] (.agg #[.int .u64 a1, .int .u64 a0])) (HF : Ct 21 #[.int .u64 h] (.agg #[.int .u64 e1, .int .u64 e0])) (HC : Ct 20 #[.agg #[.int .u64 a1, .int .u64 a0], .agg #[.int .u64 e1, .int .u64 e0]] (.int .i64 c)) (g : c ≤ 0) (HS : Ct 22 #[.int .i64 k, .bool false, .int .u64 a0] (.int .u64 V)) :
    Calls Tryd.prog 10 #[.int .i64 w, .int .i64 k, .int .u64 x, .bool s] W fun r W' => r = .returned (.tuple #[.int .u64 V, .int .i64 0]) ∧ Below W.heap.size W W' := by
  have HB := hide (Below.refl W.heap.size W)
  go_enter Tryd.func10, Tryd.ntmps10
  go_wp2_with fail
  refine (unhide HK _).mono ?_
  rintro _ w1 ⟨rfl, hb⟩
  have HB := hide (bthen (unhide HB) hb)
  clear hb
  go_wp2_with fail
  refine (unhide HO _).mono ?_
  rintro _ w2 ⟨rfl, hb⟩
  have HB := hide (balloc (bthen (unhide HB) hb) (.cells #[.bool false, .int .i64 1, .int .i64 X, .int .u64 S] 40))
  have HA := hide (at4_new w2 (.bool false) (.int .i64 1) (.int .i64 X) (.int .u64 S) 40)
  clear hb
  go_wp2_with fail
  refine (unhide HE _).mono ?_
  rintro _ w3 ⟨rfl, hb⟩
  have HB := hide (bthen (unhide HB) hb)
  have HA := hide ((unhide HA).below hb)
  clear hb
  obtain ⟨c0, c1, c2, c3⟩ := unhide HA
  go_wp2_with fail
  clear c0 c1 c2 c3
  refine (unhide HM _).mono ?_
  rintro _ w4 ⟨rfl, hb⟩
  have HB := hide (bthen (unhide HB) hb)
  have HA := hide ((unhide HA).below hb)
  clear hb
  have HB := hide (balloc (unhide HB) (.cells #[.int .u64 a1, .int .u64 a0] 45)).drew
  have HA := hide ((unhide HA).below (below1 w4 (.cells #[.int .u64 a1, .int .u64 a0] 45)).drew)
  have H2 := hide (at2_mk w4 (.int .u64 a1) (.int .u64 a0) 45)
  go_wp2_with fail
  refine wp_region_held_drew (S := fun w' => (w'.cell? ⟨w4.heap.size, 0, none⟩ = some (.int .u64 a1) ∧ w'.cell? ⟨w4.heap.size, 1, none⟩ = some (.int .u64 a0))) (by kernel_rfl) ?_ (fun hHeld => ?_)
  · (try dsimp only)
    exact unhide H2
  refine lst0 5 (by kernel_rfl) ?_
  refine tkA 0 39 1 ?_
  refine tkA 1 40 3 ?_
  refine rdA 2 7 (fun Kk hKk => ?_)
  go_simp
  refine (unhide HF _).mono ?_
  rintro _ w5 ⟨rfl, hb⟩
  have HB := hide (bthen (unhide HB) hb)
  have HA := hide ((unhide HA).below hb)
  have H2 := hide ((unhide H2).below hb)
  clear hb
  (try go_wp2_with fail)
  refine hKk.out _ _ ?_ (fun hHeld => ?_)
  · (try dsimp only)
    exact unhide H2
  clear hKk Kk
  (try simp only [List.setIfInBounds_toArray, List.set_cons_zero, List.set_cons_succ])
  refine rdA 3 15 (fun Kk hKk => ?_)
  go_simp
  refine (unhide HC _).mono ?_
  rintro _ w6 ⟨rfl, hb⟩
  have HB := hide (bthen (unhide HB) hb)
  have HA := hide ((unhide HA).below hb)
  have H2 := hide ((unhide H2).below hb)
  clear hb
  (try go_wp2_with fail)
  refine hKk.out _ _ ?_ (fun hHeld => ?_)
  · (try dsimp only)
    exact unhide H2
  clear hKk Kk
  (try simp only [List.setIfInBounds_toArray, List.set_cons_zero, List.set_cons_succ])
  refine tkA 4 43 31 ?_
  refine wpAnyH_done (by kernel_rfl) ?_ _
  clear hHeld
  obtain ⟨c0, c1, c2, c3⟩ := unhide HA
  obtain ⟨d0, d1⟩ := unhide H2
  go_wp2_with fail
  clear c0 c1 c2 c3 d0 d1
  refine (unhide HS _).mono ?_
  rintro _ w7 ⟨rfl, hb⟩
  have HB := hide (bthen (unhide HB) hb)
  clear hb
  go_wp2_with fail
  go_ret2
  exact ⟨rfl, unhide HB⟩
set_option maxHeartbeats 4000000 in
set_option maxRecDepth 100000 in
theorem chopped_gt_f {w k x X S L h a1 a0 e1 e0 c : Int} {s : Bool} (W : World) (HK : Ct 16 #[.int .i64 k] (.bool true)) (HO : Ct 17 #[.int .i64 w, .int .u64 x] (.agg #[.bool false, .int .i64 1, .int .i64 X, .int .u64 S])) (HE : Ct 18 #[.int .i64 k, .bool s] (.tuple #[.int .u64 L, .int .u64 h])) (HM : Ct 19 #[.agg #[.bool false, .int .i64 1, .int .i64 X, .int .u64 S]] (.agg #[.int .u64 a1, .int .u64 a0])) (HF : Ct 21 #[.int .u64 h] (.agg #[.int .u64 e1, .int .u64 e0])) (HC : Ct 20 #[.agg #[.int .u64 a1, .int .u64 a0], .agg #[.int .u64 e1, .int .u64 e0]] (.int .i64 c)) (g : ¬ c ≤ 0) :
    Calls Tryd.prog 10 #[.int .i64 w, .int .i64 k, .int .u64 x, .bool s] W fun r W' => r = .returned (.tuple #[.int .u64 h, .int .i64 3]) ∧ Below W.heap.size W W' := by
  have HB := hide (Below.refl W.heap.size W)
  go_enter Tryd.func10, Tryd.ntmps10
  go_wp2_with fail
  refine (unhide HK _).mono ?_
  rintro _ w1 ⟨rfl, hb⟩
  have HB := hide (bthen (unhide HB) hb)
  clear hb
  go_wp2_with fail
  refine (unhide HO _).mono ?_
  rintro _ w2 ⟨rfl, hb⟩
  have HB := hide (balloc (bthen (unhide HB) hb) (.cells #[.bool false, .int .i64 1, .int .i64 X, .int .u64 S] 40))
  have HA := hide (at4_new w2 (.bool false) (.int .i64 1) (.int .i64 X) (.int .u64 S) 40)
  clear hb
  go_wp2_with fail
  refine (unhide HE _).mono ?_
  rintro _ w3 ⟨rfl, hb⟩
  have HB := hide (bthen (unhide HB) hb)
  have HA := hide ((unhide HA).below hb)
  clear hb
  obtain ⟨c0, c1, c2, c3⟩ := unhide HA
  go_wp2_with fail
  clear c0 c1 c2 c3
  refine (unhide HM _).mono ?_
  rintro _ w4 ⟨rfl, hb⟩
  have HB := hide (bthen (unhide HB) hb)
  have HA := hide ((unhide HA).below hb)
  clear hb
  have HB := hide (balloc (unhide HB) (.cells #[.int .u64 a1, .int .u64 a0] 45)).drew
  have HA := hide ((unhide HA).below (below1 w4 (.cells #[.int .u64 a1, .int .u64 a0] 45)).drew)
  have H2 := hide (at2_mk w4 (.int .u64 a1) (.int .u64 a0) 45)
  go_wp2_with fail
  refine wp_region_held_drew (S := fun w' => (w'.cell? ⟨w4.heap.size, 0, none⟩ = some (.int .u64 a1) ∧ w'.cell? ⟨w4.heap.size, 1, none⟩ = some (.int .u64 a0))) (by kernel_rfl) ?_ (fun hHeld => ?_)
  · (try dsimp only)
    exact unhide H2
  refine lst0 5 (by kernel_rfl) ?_
  refine tkA 0 39 1 ?_
  refine tkA 1 40 3 ?_
  refine rdA 2 7 (fun Kk hKk => ?_)
  go_simp
  refine (unhide HF _).mono ?_
  rintro _ w5 ⟨rfl, hb⟩
  have HB := hide (bthen (unhide HB) hb)
  have HA := hide ((unhide HA).below hb)
  have H2 := hide ((unhide H2).below hb)
  clear hb
  (try go_wp2_with fail)
  refine hKk.out _ _ ?_ (fun hHeld => ?_)
  · (try dsimp only)
    exact unhide H2
  clear hKk Kk
  (try simp only [List.setIfInBounds_toArray, List.set_cons_zero, List.set_cons_succ])
  refine rdA 3 15 (fun Kk hKk => ?_)
  go_simp
  refine (unhide HC _).mono ?_
  rintro _ w6 ⟨rfl, hb⟩
  have HB := hide (bthen (unhide HB) hb)
  have HA := hide ((unhide HA).below hb)
  have H2 := hide ((unhide H2).below hb)
  clear hb
  (try go_wp2_with fail)
  refine hKk.out _ _ ?_ (fun hHeld => ?_)
  · (try dsimp only)
    exact unhide H2
  clear hKk Kk
  (try simp only [List.setIfInBounds_toArray, List.set_cons_zero, List.set_cons_succ])
  refine tkA 4 43 31 ?_
  refine wpAnyH_done (by kernel_rfl) ?_ _
  clear hHeld
  go_wp2_with fail
  go_ret2
  exact ⟨rfl, unhide HB⟩
set_option maxHeartbeats 4000000 in
set_option maxRecDepth 100000 in
theorem chopped_zero_f {w k x X S L h : Int} {s : Bool} (W : World) (HK : Ct 16 #[.int .i64 k] (.bool true)) (HO : Ct 17 #[.int .i64 w, .int .u64 x] (.agg #[.bool false, .int .i64 0, .int .i64 X, .int .u64 S])) (HE : Ct 18 #[.int .i64 k, .bool s] (.tuple #[.int .u64 L, .int .u64 h])) :
    Calls Tryd.prog 10 #[.int .i64 w, .int .i64 k, .int .u64 x, .bool s] W fun r W' => r = .returned (.tuple #[.int .u64 0, .int .i64 0]) ∧ Below W.heap.size W W' := by
  have HB := hide (Below.refl W.heap.size W)
  go_enter Tryd.func10, Tryd.ntmps10
  go_wp2_with fail
  refine (unhide HK _).mono ?_
  rintro _ w1 ⟨rfl, hb⟩
  have HB := hide (bthen (unhide HB) hb)
  clear hb
  go_wp2_with fail
  refine (unhide HO _).mono ?_
  rintro _ w2 ⟨rfl, hb⟩
  have HB := hide (balloc (bthen (unhide HB) hb) (.cells #[.bool false, .int .i64 0, .int .i64 X, .int .u64 S] 40))
  have HA := hide (at4_new w2 (.bool false) (.int .i64 0) (.int .i64 X) (.int .u64 S) 40)
  clear hb
  go_wp2_with fail
  refine (unhide HE _).mono ?_
  rintro _ w3 ⟨rfl, hb⟩
  have HB := hide (bthen (unhide HB) hb)
  have HA := hide ((unhide HA).below hb)
  clear hb
  obtain ⟨c0, c1, c2, c3⟩ := unhide HA
  go_wp2_with fail
  go_ret2
  exact ⟨rfl, unhide HB⟩
end Go.Proofs.YtmbkpmcmhmldgaaDoor
