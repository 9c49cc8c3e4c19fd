/- CmpB, CmpIt. -/
import Derived.Test.YtepdmpcgkecjiaaG34
namespace Go.Proofs.Ytepdmpcgkecjiaa
open Go.RowKit
open Go.Proofs.Ytepdmpcgkecjiaa.W

set_option maxRecDepth 100000 in
set_option maxHeartbeats 2000000 in
theorem cmp_gt {w x y K1 X1 S1 K2 X2 S2 s1 s2 : Int} {n1 n2 : Bool} (W : World) (HO1 : Hid (∀ W, Calls Try.prog 14 #[.int .i64 w, .int .u64 x] W fun r W' => r = .returned (.agg #[.bool n1, .int .i64 K1, .int .i64 X1, .int .u64 S1]) ∧ Below W.heap.size W W')) (HO2 : Hid (∀ W, Calls Try.prog 14 #[.int .i64 w, .int .u64 y] W fun r W' => r = .returned (.agg #[.bool n2, .int .i64 K2, .int .i64 X2, .int .u64 S2]) ∧ Below W.heap.size W W')) (a3 : (K1 == 3) = false) (b3 : (K2 == 3) = false) (HS1 : Hid (∀ W, Calls Try.prog 59 #[.agg #[.bool n1, .int .i64 K1, .int .i64 X1, .int .u64 S1]] W fun r W' => r = .returned (.int .i64 s1) ∧ Below W.heap.size W W')) (HS2 : Hid (∀ W, Calls Try.prog 59 #[.agg #[.bool n2, .int .i64 K2, .int .i64 X2, .int .u64 S2]] W fun r W' => r = .returned (.int .i64 s2) ∧ Below W.heap.size W W')) (h2 : s2 < s1) :
    Calls Try.prog 24 #[.int .i64 w, .int .u64 x, .int .u64 y] W fun r W' => r = .returned (.int .i64 1) ∧ Below W.heap.size W W' := by
  go_enter Try.func24, Try.ntmps24
  go_wp2_with fail
  refine (unhide HO1 _).mono ?_
  rintro _ w1 ⟨rfl, hb⟩
  have HB := hide (balloc hb (.cells #[.bool n1, .int .i64 K1, .int .i64 X1, .int .u64 S1] 30))
  have HA := hide (at4_new w1 (.bool n1) (.int .i64 K1) (.int .i64 X1) (.int .u64 S1) 30)
  clear hb
  go_wp2_with fail
  refine (unhide HO2 _).mono ?_
  rintro _ w2 ⟨rfl, hb⟩
  have HB := hide (balloc (bthen (unhide HB) hb) (.cells #[.bool n2, .int .i64 K2, .int .i64 X2, .int .u64 S2] 30))
  have HA := hide (((unhide HA).below hb).below (below1 w2 (.cells #[.bool n2, .int .i64 K2, .int .i64 X2, .int .u64 S2] 30)))
  have H1 := hide (at4_new w2 (.bool n2) (.int .i64 K2) (.int .i64 X2) (.int .u64 S2) 30)
  clear hb
  obtain ⟨c0, c1, c2, c3⟩ := unhide HA
  obtain ⟨d0, d1, d2, d3⟩ := unhide H1
  go_wp2_with fail
  clear c0 c1 c2 c3 d0 d1 d2 d3
  have HB := hide (unhide HB).drew
  have HA := hide ((unhide HA).below ((Below.refl _ _).drew))
  have H1 := hide ((unhide H1).below ((Below.refl _ _).drew))
  refine wp_region_held_drew (S := fun w' => (w'.cell? ⟨w1.heap.size, 0, none⟩ = some (.bool n1) ∧ w'.cell? ⟨w1.heap.size, 1, none⟩ = some (.int .i64 K1) ∧ w'.cell? ⟨w1.heap.size, 2, none⟩ = some (.int .i64 X1) ∧ w'.cell? ⟨w1.heap.size, 3, none⟩ = some (.int .u64 S1)) ∧ (w'.cell? ⟨w2.heap.size, 0, none⟩ = some (.bool n2) ∧ w'.cell? ⟨w2.heap.size, 1, none⟩ = some (.int .i64 K2) ∧ w'.cell? ⟨w2.heap.size, 2, none⟩ = some (.int .i64 X2) ∧ w'.cell? ⟨w2.heap.size, 3, none⟩ = some (.int .u64 S2))) (by kernel_rfl) ?_ (fun hHeld => ?_)
  · (try dsimp only)
    exact ⟨unhide HA, unhide H1⟩
  refine lst0 5 (by kernel_rfl) ?_
  refine tkH 0 25 1 ?v0a rfl (by kernel_rfl) (by kernel_rfl) (fun _ _ _ h => h) (by assumption) (Or.inl ⟨by rfl, ?y0a⟩) ?_
  case y0a => ((intro w hSw; (try dsimp only at hSw); go_simp) <;> with_reducible rfl)
  (try simp only [Act.put, List.setIfInBounds_toArray, List.set_cons_zero, List.set_cons_succ])
  refine tkH 2 27 5 ?v2a rfl (by kernel_rfl) (by kernel_rfl) (fun _ _ _ h => h) (by assumption) (Or.inl ⟨by rfl, ?y2a⟩) ?_
  case y2a => ((intro w hSw; (try dsimp only at hSw); go_simp) <;> with_reducible rfl)
  (try simp only [Act.put, List.setIfInBounds_toArray, List.set_cons_zero, List.set_cons_succ])
  refine rdH 1 7 rfl (by kernel_rfl) (by kernel_rfl) (fun Kk hKk => ?_)
  go_simp
  refine (unhide HS1 _).mono ?_
  rintro _ w3 ⟨rfl, hb⟩
  have HB := hide (bthen (unhide HB) hb)
  have HA := hide ((unhide HA).below hb)
  have H1 := hide ((unhide H1).below hb)
  clear hb
  (try go_wp2_with fail)
  refine hKk.out _ _ ?_ (fun hHeld => ?_)
  · (try dsimp only)
    exact ⟨unhide HA, unhide H1⟩
  clear hKk Kk
  (try simp only [List.setIfInBounds_toArray, List.set_cons_zero, List.set_cons_succ])
  refine rdH 3 15 rfl (by kernel_rfl) (by kernel_rfl) (fun Kk hKk => ?_)
  go_simp
  refine (unhide HS2 _).mono ?_
  rintro _ w4 ⟨rfl, hb⟩
  have HB := hide (bthen (unhide HB) hb)
  have HA := hide ((unhide HA).below hb)
  have H1 := hide ((unhide H1).below hb)
  clear hb
  (try go_wp2_with fail)
  refine hKk.out _ _ ?_ (fun hHeld => ?_)
  · (try dsimp only)
    exact ⟨unhide HA, unhide H1⟩
  clear hKk Kk
  (try simp only [List.setIfInBounds_toArray, List.set_cons_zero, List.set_cons_succ])
  refine tkH 4 29 31 ?v4a rfl (by kernel_rfl) (by kernel_rfl) (fun _ _ _ h => h) (by assumption) (Or.inl ⟨by rfl, ?y4a⟩) ?_
  case y4a => ((intro w hSw; (try dsimp only at hSw); go_simp) <;> with_reducible rfl)
  (try simp only [Act.put, List.setIfInBounds_toArray, List.set_cons_zero, List.set_cons_succ])
  refine wpAnyH_done (by kernel_rfl) ?_ _
  clear hHeld
  obtain ⟨c0, c1, c2, c3⟩ := unhide HA
  obtain ⟨d0, d1, d2, d3⟩ := unhide H1
  go_wp2_with fail
  clear c0 c1 c2 c3 d0 d1 d2 d3
  have HB := hide (unhide HB).drew
  have HA := hide ((unhide HA).below ((Below.refl _ _).drew))
  have H1 := hide ((unhide H1).below ((Below.refl _ _).drew))
  refine wp_region_held_drew (S := fun w' => (w'.cell? ⟨w1.heap.size, 0, none⟩ = some (.bool n1) ∧ w'.cell? ⟨w1.heap.size, 1, none⟩ = some (.int .i64 K1) ∧ w'.cell? ⟨w1.heap.size, 2, none⟩ = some (.int .i64 X1) ∧ w'.cell? ⟨w1.heap.size, 3, none⟩ = some (.int .u64 S1)) ∧ (w'.cell? ⟨w2.heap.size, 0, none⟩ = some (.bool n2) ∧ w'.cell? ⟨w2.heap.size, 1, none⟩ = some (.int .i64 K2) ∧ w'.cell? ⟨w2.heap.size, 2, none⟩ = some (.int .i64 X2) ∧ w'.cell? ⟨w2.heap.size, 3, none⟩ = some (.int .u64 S2))) (by kernel_rfl) ?_ (fun hHeld => ?_)
  · (try dsimp only)
    exact ⟨unhide HA, unhide H1⟩
  refine lst0 5 (by kernel_rfl) ?_
  refine tkH 0 30 1 ?v0b rfl (by kernel_rfl) (by kernel_rfl) (fun _ _ _ h => h) (by assumption) (Or.inl ⟨by rfl, ?y0b⟩) ?_
  case y0b => ((intro w hSw; (try dsimp only at hSw); go_simp) <;> with_reducible rfl)
  (try simp only [Act.put, List.setIfInBounds_toArray, List.set_cons_zero, List.set_cons_succ])
  refine tkH 2 32 5 ?v2b rfl (by kernel_rfl) (by kernel_rfl) (fun _ _ _ h => h) (by assumption) (Or.inl ⟨by rfl, ?y2b⟩) ?_
  case y2b => ((intro w hSw; (try dsimp only at hSw); go_simp) <;> with_reducible rfl)
  (try simp only [Act.put, List.setIfInBounds_toArray, List.set_cons_zero, List.set_cons_succ])
  refine rdH 1 7 rfl (by kernel_rfl) (by kernel_rfl) (fun Kk hKk => ?_)
  go_simp
  refine (unhide HS1 _).mono ?_
  rintro _ w5 ⟨rfl, hb⟩
  have HB := hide (bthen (unhide HB) hb)
  have HA := hide ((unhide HA).below hb)
  have H1 := hide ((unhide H1).below hb)
  clear hb
  (try go_wp2_with fail)
  refine hKk.out _ _ ?_ (fun hHeld => ?_)
  · (try dsimp only)
    exact ⟨unhide HA, unhide H1⟩
  clear hKk Kk
  (try simp only [List.setIfInBounds_toArray, List.set_cons_zero, List.set_cons_succ])
  refine rdH 3 15 rfl (by kernel_rfl) (by kernel_rfl) (fun Kk hKk => ?_)
  go_simp
  refine (unhide HS2 _).mono ?_
  rintro _ w6 ⟨rfl, hb⟩
  have HB := hide (bthen (unhide HB) hb)
  have HA := hide ((unhide HA).below hb)
  have H1 := hide ((unhide H1).below hb)
  clear hb
  (try go_wp2_with fail)
  refine hKk.out _ _ ?_ (fun hHeld => ?_)
  · (try dsimp only)
    exact ⟨unhide HA, unhide H1⟩
  clear hKk Kk
  (try simp only [List.setIfInBounds_toArray, List.set_cons_zero, List.set_cons_succ])
  refine tkH 4 34 31 ?v4b rfl (by kernel_rfl) (by kernel_rfl) (fun _ _ _ h => h) (by assumption) (Or.inl ⟨by rfl, ?y4b⟩) ?_
  case y4b => ((intro w hSw; (try dsimp only at hSw); go_simp) <;> with_reducible rfl)
  (try simp only [Act.put, List.setIfInBounds_toArray, List.set_cons_zero, List.set_cons_succ])
  refine wpAnyH_done (by kernel_rfl) ?_ _
  clear hHeld
  obtain ⟨c0, c1, c2, c3⟩ := unhide HA
  obtain ⟨d0, d1, d2, d3⟩ := unhide H1
  go_wp2_with fail
  go_ret
  exact ⟨rfl, unhide HB⟩
set_option maxRecDepth 100000 in
set_option maxHeartbeats 2000000 in
theorem cmp_z {w x y K1 X1 S1 K2 X2 S2 s1 s2 : Int} {n1 n2 : Bool} (W : World) (HO1 : Hid (∀ W, Calls Try.prog 14 #[.int .i64 w, .int .u64 x] W fun r W' => r = .returned (.agg #[.bool n1, .int .i64 K1, .int .i64 X1, .int .u64 S1]) ∧ Below W.heap.size W W')) (HO2 : Hid (∀ W, Calls Try.prog 14 #[.int .i64 w, .int .u64 y] W fun r W' => r = .returned (.agg #[.bool n2, .int .i64 K2, .int .i64 X2, .int .u64 S2]) ∧ Below W.heap.size W W')) (a3 : (K1 == 3) = false) (b3 : (K2 == 3) = false) (HS1 : Hid (∀ W, Calls Try.prog 59 #[.agg #[.bool n1, .int .i64 K1, .int .i64 X1, .int .u64 S1]] W fun r W' => r = .returned (.int .i64 s1) ∧ Below W.heap.size W W')) (HS2 : Hid (∀ W, Calls Try.prog 59 #[.agg #[.bool n2, .int .i64 K2, .int .i64 X2, .int .u64 S2]] W fun r W' => r = .returned (.int .i64 s2) ∧ Below W.heap.size W W')) (h1 : ¬ s1 < s2) (h2 : ¬ s2 < s1) (h3 : (s1 == 0) = true) :
    Calls Try.prog 24 #[.int .i64 w, .int .u64 x, .int .u64 y] W fun r W' => r = .returned (.int .i64 0) ∧ Below W.heap.size W W' := by
  go_enter Try.func24, Try.ntmps24
  go_wp2_with fail
  refine (unhide HO1 _).mono ?_
  rintro _ w1 ⟨rfl, hb⟩
  have HB := hide (balloc hb (.cells #[.bool n1, .int .i64 K1, .int .i64 X1, .int .u64 S1] 30))
  have HA := hide (at4_new w1 (.bool n1) (.int .i64 K1) (.int .i64 X1) (.int .u64 S1) 30)
  clear hb
  go_wp2_with fail
  refine (unhide HO2 _).mono ?_
  rintro _ w2 ⟨rfl, hb⟩
  have HB := hide (balloc (bthen (unhide HB) hb) (.cells #[.bool n2, .int .i64 K2, .int .i64 X2, .int .u64 S2] 30))
  have HA := hide (((unhide HA).below hb).below (below1 w2 (.cells #[.bool n2, .int .i64 K2, .int .i64 X2, .int .u64 S2] 30)))
  have H1 := hide (at4_new w2 (.bool n2) (.int .i64 K2) (.int .i64 X2) (.int .u64 S2) 30)
  clear hb
  obtain ⟨c0, c1, c2, c3⟩ := unhide HA
  obtain ⟨d0, d1, d2, d3⟩ := unhide H1
  go_wp2_with fail
  clear c0 c1 c2 c3 d0 d1 d2 d3
  have HB := hide (unhide HB).drew
  have HA := hide ((unhide HA).below ((Below.refl _ _).drew))
  have H1 := hide ((unhide H1).below ((Below.refl _ _).drew))
  refine wp_region_held_drew (S := fun w' => (w'.cell? ⟨w1.heap.size, 0, none⟩ = some (.bool n1) ∧ w'.cell? ⟨w1.heap.size, 1, none⟩ = some (.int .i64 K1) ∧ w'.cell? ⟨w1.heap.size, 2, none⟩ = some (.int .i64 X1) ∧ w'.cell? ⟨w1.heap.size, 3, none⟩ = some (.int .u64 S1)) ∧ (w'.cell? ⟨w2.heap.size, 0, none⟩ = some (.bool n2) ∧ w'.cell? ⟨w2.heap.size, 1, none⟩ = some (.int .i64 K2) ∧ w'.cell? ⟨w2.heap.size, 2, none⟩ = some (.int .i64 X2) ∧ w'.cell? ⟨w2.heap.size, 3, none⟩ = some (.int .u64 S2))) (by kernel_rfl) ?_ (fun hHeld => ?_)
  · (try dsimp only)
    exact ⟨unhide HA, unhide H1⟩
  refine lst0 5 (by kernel_rfl) ?_
  refine tkH 0 25 1 ?v0a rfl (by kernel_rfl) (by kernel_rfl) (fun _ _ _ h => h) (by assumption) (Or.inl ⟨by rfl, ?y0a⟩) ?_
  case y0a => ((intro w hSw; (try dsimp only at hSw); go_simp) <;> with_reducible rfl)
  (try simp only [Act.put, List.setIfInBounds_toArray, List.set_cons_zero, List.set_cons_succ])
  refine tkH 2 27 5 ?v2a rfl (by kernel_rfl) (by kernel_rfl) (fun _ _ _ h => h) (by assumption) (Or.inl ⟨by rfl, ?y2a⟩) ?_
  case y2a => ((intro w hSw; (try dsimp only at hSw); go_simp) <;> with_reducible rfl)
  (try simp only [Act.put, List.setIfInBounds_toArray, List.set_cons_zero, List.set_cons_succ])
  refine rdH 1 7 rfl (by kernel_rfl) (by kernel_rfl) (fun Kk hKk => ?_)
  go_simp
  refine (unhide HS1 _).mono ?_
  rintro _ w3 ⟨rfl, hb⟩
  have HB := hide (bthen (unhide HB) hb)
  have HA := hide ((unhide HA).below hb)
  have H1 := hide ((unhide H1).below hb)
  clear hb
  (try go_wp2_with fail)
  refine hKk.out _ _ ?_ (fun hHeld => ?_)
  · (try dsimp only)
    exact ⟨unhide HA, unhide H1⟩
  clear hKk Kk
  (try simp only [List.setIfInBounds_toArray, List.set_cons_zero, List.set_cons_succ])
  refine rdH 3 15 rfl (by kernel_rfl) (by kernel_rfl) (fun Kk hKk => ?_)
  go_simp
  refine (unhide HS2 _).mono ?_
  rintro _ w4 ⟨rfl, hb⟩
  have HB := hide (bthen (unhide HB) hb)
  have HA := hide ((unhide HA).below hb)
  have H1 := hide ((unhide H1).below hb)
  clear hb
  (try go_wp2_with fail)
  refine hKk.out _ _ ?_ (fun hHeld => ?_)
  · (try dsimp only)
    exact ⟨unhide HA, unhide H1⟩
  clear hKk Kk
  (try simp only [List.setIfInBounds_toArray, List.set_cons_zero, List.set_cons_succ])
  refine tkH 4 29 31 ?v4a rfl (by kernel_rfl) (by kernel_rfl) (fun _ _ _ h => h) (by assumption) (Or.inl ⟨by rfl, ?y4a⟩) ?_
  case y4a => ((intro w hSw; (try dsimp only at hSw); go_simp) <;> with_reducible rfl)
  (try simp only [Act.put, List.setIfInBounds_toArray, List.set_cons_zero, List.set_cons_succ])
  refine wpAnyH_done (by kernel_rfl) ?_ _
  clear hHeld
  obtain ⟨c0, c1, c2, c3⟩ := unhide HA
  obtain ⟨d0, d1, d2, d3⟩ := unhide H1
  go_wp2_with fail
  clear c0 c1 c2 c3 d0 d1 d2 d3
  have HB := hide (unhide HB).drew
  have HA := hide ((unhide HA).below ((Below.refl _ _).drew))
  have H1 := hide ((unhide H1).below ((Below.refl _ _).drew))
  refine wp_region_held_drew (S := fun w' => (w'.cell? ⟨w1.heap.size, 0, none⟩ = some (.bool n1) ∧ w'.cell? ⟨w1.heap.size, 1, none⟩ = some (.int .i64 K1) ∧ w'.cell? ⟨w1.heap.size, 2, none⟩ = some (.int .i64 X1) ∧ w'.cell? ⟨w1.heap.size, 3, none⟩ = some (.int .u64 S1)) ∧ (w'.cell? ⟨w2.heap.size, 0, none⟩ = some (.bool n2) ∧ w'.cell? ⟨w2.heap.size, 1, none⟩ = some (.int .i64 K2) ∧ w'.cell? ⟨w2.heap.size, 2, none⟩ = some (.int .i64 X2) ∧ w'.cell? ⟨w2.heap.size, 3, none⟩ = some (.int .u64 S2))) (by kernel_rfl) ?_ (fun hHeld => ?_)
  · (try dsimp only)
    exact ⟨unhide HA, unhide H1⟩
  refine lst0 5 (by kernel_rfl) ?_
  refine tkH 0 30 1 ?v0b rfl (by kernel_rfl) (by kernel_rfl) (fun _ _ _ h => h) (by assumption) (Or.inl ⟨by rfl, ?y0b⟩) ?_
  case y0b => ((intro w hSw; (try dsimp only at hSw); go_simp) <;> with_reducible rfl)
  (try simp only [Act.put, List.setIfInBounds_toArray, List.set_cons_zero, List.set_cons_succ])
  refine tkH 2 32 5 ?v2b rfl (by kernel_rfl) (by kernel_rfl) (fun _ _ _ h => h) (by assumption) (Or.inl ⟨by rfl, ?y2b⟩) ?_
  case y2b => ((intro w hSw; (try dsimp only at hSw); go_simp) <;> with_reducible rfl)
  (try simp only [Act.put, List.setIfInBounds_toArray, List.set_cons_zero, List.set_cons_succ])
  refine rdH 1 7 rfl (by kernel_rfl) (by kernel_rfl) (fun Kk hKk => ?_)
  go_simp
  refine (unhide HS1 _).mono ?_
  rintro _ w5 ⟨rfl, hb⟩
  have HB := hide (bthen (unhide HB) hb)
  have HA := hide ((unhide HA).below hb)
  have H1 := hide ((unhide H1).below hb)
  clear hb
  (try go_wp2_with fail)
  refine hKk.out _ _ ?_ (fun hHeld => ?_)
  · (try dsimp only)
    exact ⟨unhide HA, unhide H1⟩
  clear hKk Kk
  (try simp only [List.setIfInBounds_toArray, List.set_cons_zero, List.set_cons_succ])
  refine rdH 3 15 rfl (by kernel_rfl) (by kernel_rfl) (fun Kk hKk => ?_)
  go_simp
  refine (unhide HS2 _).mono ?_
  rintro _ w6 ⟨rfl, hb⟩
  have HB := hide (bthen (unhide HB) hb)
  have HA := hide ((unhide HA).below hb)
  have H1 := hide ((unhide H1).below hb)
  clear hb
  (try go_wp2_with fail)
  refine hKk.out _ _ ?_ (fun hHeld => ?_)
  · (try dsimp only)
    exact ⟨unhide HA, unhide H1⟩
  clear hKk Kk
  (try simp only [List.setIfInBounds_toArray, List.set_cons_zero, List.set_cons_succ])
  refine tkH 4 34 31 ?v4b rfl (by kernel_rfl) (by kernel_rfl) (fun _ _ _ h => h) (by assumption) (Or.inl ⟨by rfl, ?y4b⟩) ?_
  case y4b => ((intro w hSw; (try dsimp only at hSw); go_simp) <;> with_reducible rfl)
  (try simp only [Act.put, List.setIfInBounds_toArray, List.set_cons_zero, List.set_cons_succ])
  refine wpAnyH_done (by kernel_rfl) ?_ _
  clear hHeld
  obtain ⟨c0, c1, c2, c3⟩ := unhide HA
  obtain ⟨d0, d1, d2, d3⟩ := unhide H1
  go_wp2_with fail
  clear c0 c1 c2 c3 d0 d1 d2 d3
  refine (unhide HS1 _).mono ?_
  rintro _ w7 ⟨rfl, hb⟩
  have HB := hide (bthen (unhide HB) hb)
  have HA := hide ((unhide HA).below hb)
  have H1 := hide ((unhide H1).below hb)
  clear hb
  obtain ⟨c0, c1, c2, c3⟩ := unhide HA
  obtain ⟨d0, d1, d2, d3⟩ := unhide H1
  go_wp2_with fail
  go_ret
  exact ⟨rfl, unhide HB⟩

end Go.Proofs.Ytepdmpcgkecjiaa
namespace Go.Proofs.Ytepdmpcgkecjiaa
open Go.RowKit
open Go.Proofs.Ytepdmpcgkecjiaa.W

set_option maxRecDepth 100000 in
set_option maxHeartbeats 2000000 in
theorem cmp_i1t {w x y K1 X1 S1 K2 X2 S2 s1 s2 d0 r0 : Int} {n2 : Bool} (W : World) (HO1 : Hid (∀ W, Calls Try.prog 14 #[.int .i64 w, .int .u64 x] W fun r W' => r = .returned (.agg #[.bool true, .int .i64 K1, .int .i64 X1, .int .u64 S1]) ∧ Below W.heap.size W W')) (HO2 : Hid (∀ W, Calls Try.prog 14 #[.int .i64 w, .int .u64 y] W fun r W' => r = .returned (.agg #[.bool n2, .int .i64 K2, .int .i64 X2, .int .u64 S2]) ∧ Below W.heap.size W W')) (a3 : (K1 == 3) = false) (b3 : (K2 == 3) = false) (HS1 : Hid (∀ W, Calls Try.prog 59 #[.agg #[.bool true, .int .i64 K1, .int .i64 X1, .int .u64 S1]] W fun r W' => r = .returned (.int .i64 s1) ∧ Below W.heap.size W W')) (HS2 : Hid (∀ W, Calls Try.prog 59 #[.agg #[.bool n2, .int .i64 K2, .int .i64 X2, .int .u64 S2]] W fun r W' => r = .returned (.int .i64 s2) ∧ Below W.heap.size W W')) (h1 : ¬ s1 < s2) (h2 : ¬ s2 < s1) (h3 : (s1 == 0) = false) (a2 : (K1 == 2) = true) (h4 : IntKind.i64.wrap (K1 - K2) = d0) (h5 : IntKind.i64.wrap (-d0) = r0) :
    Calls Try.prog 24 #[.int .i64 w, .int .u64 x, .int .u64 y] W fun r W' => r = .returned (.int .i64 r0) ∧ Below W.heap.size W W' := by
  go_enter Try.func24, Try.ntmps24
  go_wp2_with fail
  refine (unhide HO1 _).mono ?_
  rintro _ w1 ⟨rfl, hb⟩
  have HB := hide (balloc hb (.cells #[.bool true, .int .i64 K1, .int .i64 X1, .int .u64 S1] 30))
  have HA := hide (at4_new w1 (.bool true) (.int .i64 K1) (.int .i64 X1) (.int .u64 S1) 30)
  clear hb
  go_wp2_with fail
  refine (unhide HO2 _).mono ?_
  rintro _ w2 ⟨rfl, hb⟩
  have HB := hide (balloc (bthen (unhide HB) hb) (.cells #[.bool n2, .int .i64 K2, .int .i64 X2, .int .u64 S2] 30))
  have HA := hide (((unhide HA).below hb).below (below1 w2 (.cells #[.bool n2, .int .i64 K2, .int .i64 X2, .int .u64 S2] 30)))
  have H1 := hide (at4_new w2 (.bool n2) (.int .i64 K2) (.int .i64 X2) (.int .u64 S2) 30)
  clear hb
  obtain ⟨c0, c1, c2, c3⟩ := unhide HA
  obtain ⟨d0, d1, d2, d3⟩ := unhide H1
  go_wp2_with fail
  clear c0 c1 c2 c3 d0 d1 d2 d3
  have HB := hide (unhide HB).drew
  have HA := hide ((unhide HA).below ((Below.refl _ _).drew))
  have H1 := hide ((unhide H1).below ((Below.refl _ _).drew))
  refine wp_region_held_drew (S := fun w' => (w'.cell? ⟨w1.heap.size, 0, none⟩ = some (.bool true) ∧ w'.cell? ⟨w1.heap.size, 1, none⟩ = some (.int .i64 K1) ∧ w'.cell? ⟨w1.heap.size, 2, none⟩ = some (.int .i64 X1) ∧ w'.cell? ⟨w1.heap.size, 3, none⟩ = some (.int .u64 S1)) ∧ (w'.cell? ⟨w2.heap.size, 0, none⟩ = some (.bool n2) ∧ w'.cell? ⟨w2.heap.size, 1, none⟩ = some (.int .i64 K2) ∧ w'.cell? ⟨w2.heap.size, 2, none⟩ = some (.int .i64 X2) ∧ w'.cell? ⟨w2.heap.size, 3, none⟩ = some (.int .u64 S2))) (by kernel_rfl) ?_ (fun hHeld => ?_)
  · (try dsimp only)
    exact ⟨unhide HA, unhide H1⟩
  refine lst0 5 (by kernel_rfl) ?_
  refine tkH 0 25 1 ?v0a rfl (by kernel_rfl) (by kernel_rfl) (fun _ _ _ h => h) (by assumption) (Or.inl ⟨by rfl, ?y0a⟩) ?_
  case y0a => ((intro w hSw; (try dsimp only at hSw); go_simp) <;> with_reducible rfl)
  (try simp only [Act.put, List.setIfInBounds_toArray, List.set_cons_zero, List.set_cons_succ])
  refine tkH 2 27 5 ?v2a rfl (by kernel_rfl) (by kernel_rfl) (fun _ _ _ h => h) (by assumption) (Or.inl ⟨by rfl, ?y2a⟩) ?_
  case y2a => ((intro w hSw; (try dsimp only at hSw); go_simp) <;> with_reducible rfl)
  (try simp only [Act.put, List.setIfInBounds_toArray, List.set_cons_zero, List.set_cons_succ])
  refine rdH 1 7 rfl (by kernel_rfl) (by kernel_rfl) (fun Kk hKk => ?_)
  go_simp
  refine (unhide HS1 _).mono ?_
  rintro _ w3 ⟨rfl, hb⟩
  have HB := hide (bthen (unhide HB) hb)
  have HA := hide ((unhide HA).below hb)
  have H1 := hide ((unhide H1).below hb)
  clear hb
  (try go_wp2_with fail)
  refine hKk.out _ _ ?_ (fun hHeld => ?_)
  · (try dsimp only)
    exact ⟨unhide HA, unhide H1⟩
  clear hKk Kk
  (try simp only [List.setIfInBounds_toArray, List.set_cons_zero, List.set_cons_succ])
  refine rdH 3 15 rfl (by kernel_rfl) (by kernel_rfl) (fun Kk hKk => ?_)
  go_simp
  refine (unhide HS2 _).mono ?_
  rintro _ w4 ⟨rfl, hb⟩
  have HB := hide (bthen (unhide HB) hb)
  have HA := hide ((unhide HA).below hb)
  have H1 := hide ((unhide H1).below hb)
  clear hb
  (try go_wp2_with fail)
  refine hKk.out _ _ ?_ (fun hHeld => ?_)
  · (try dsimp only)
    exact ⟨unhide HA, unhide H1⟩
  clear hKk Kk
  (try simp only [List.setIfInBounds_toArray, List.set_cons_zero, List.set_cons_succ])
  refine tkH 4 29 31 ?v4a rfl (by kernel_rfl) (by kernel_rfl) (fun _ _ _ h => h) (by assumption) (Or.inl ⟨by rfl, ?y4a⟩) ?_
  case y4a => ((intro w hSw; (try dsimp only at hSw); go_simp) <;> with_reducible rfl)
  (try simp only [Act.put, List.setIfInBounds_toArray, List.set_cons_zero, List.set_cons_succ])
  refine wpAnyH_done (by kernel_rfl) ?_ _
  clear hHeld
  obtain ⟨c0, c1, c2, c3⟩ := unhide HA
  obtain ⟨d0, d1, d2, d3⟩ := unhide H1
  go_wp2_with fail
  clear c0 c1 c2 c3 d0 d1 d2 d3
  have HB := hide (unhide HB).drew
  have HA := hide ((unhide HA).below ((Below.refl _ _).drew))
  have H1 := hide ((unhide H1).below ((Below.refl _ _).drew))
  refine wp_region_held_drew (S := fun w' => (w'.cell? ⟨w1.heap.size, 0, none⟩ = some (.bool true) ∧ w'.cell? ⟨w1.heap.size, 1, none⟩ = some (.int .i64 K1) ∧ w'.cell? ⟨w1.heap.size, 2, none⟩ = some (.int .i64 X1) ∧ w'.cell? ⟨w1.heap.size, 3, none⟩ = some (.int .u64 S1)) ∧ (w'.cell? ⟨w2.heap.size, 0, none⟩ = some (.bool n2) ∧ w'.cell? ⟨w2.heap.size, 1, none⟩ = some (.int .i64 K2) ∧ w'.cell? ⟨w2.heap.size, 2, none⟩ = some (.int .i64 X2) ∧ w'.cell? ⟨w2.heap.size, 3, none⟩ = some (.int .u64 S2))) (by kernel_rfl) ?_ (fun hHeld => ?_)
  · (try dsimp only)
    exact ⟨unhide HA, unhide H1⟩
  refine lst0 5 (by kernel_rfl) ?_
  refine tkH 0 30 1 ?v0b rfl (by kernel_rfl) (by kernel_rfl) (fun _ _ _ h => h) (by assumption) (Or.inl ⟨by rfl, ?y0b⟩) ?_
  case y0b => ((intro w hSw; (try dsimp only at hSw); go_simp) <;> with_reducible rfl)
  (try simp only [Act.put, List.setIfInBounds_toArray, List.set_cons_zero, List.set_cons_succ])
  refine tkH 2 32 5 ?v2b rfl (by kernel_rfl) (by kernel_rfl) (fun _ _ _ h => h) (by assumption) (Or.inl ⟨by rfl, ?y2b⟩) ?_
  case y2b => ((intro w hSw; (try dsimp only at hSw); go_simp) <;> with_reducible rfl)
  (try simp only [Act.put, List.setIfInBounds_toArray, List.set_cons_zero, List.set_cons_succ])
  refine rdH 1 7 rfl (by kernel_rfl) (by kernel_rfl) (fun Kk hKk => ?_)
  go_simp
  refine (unhide HS1 _).mono ?_
  rintro _ w5 ⟨rfl, hb⟩
  have HB := hide (bthen (unhide HB) hb)
  have HA := hide ((unhide HA).below hb)
  have H1 := hide ((unhide H1).below hb)
  clear hb
  (try go_wp2_with fail)
  refine hKk.out _ _ ?_ (fun hHeld => ?_)
  · (try dsimp only)
    exact ⟨unhide HA, unhide H1⟩
  clear hKk Kk
  (try simp only [List.setIfInBounds_toArray, List.set_cons_zero, List.set_cons_succ])
  refine rdH 3 15 rfl (by kernel_rfl) (by kernel_rfl) (fun Kk hKk => ?_)
  go_simp
  refine (unhide HS2 _).mono ?_
  rintro _ w6 ⟨rfl, hb⟩
  have HB := hide (bthen (unhide HB) hb)
  have HA := hide ((unhide HA).below hb)
  have H1 := hide ((unhide H1).below hb)
  clear hb
  (try go_wp2_with fail)
  refine hKk.out _ _ ?_ (fun hHeld => ?_)
  · (try dsimp only)
    exact ⟨unhide HA, unhide H1⟩
  clear hKk Kk
  (try simp only [List.setIfInBounds_toArray, List.set_cons_zero, List.set_cons_succ])
  refine tkH 4 34 31 ?v4b rfl (by kernel_rfl) (by kernel_rfl) (fun _ _ _ h => h) (by assumption) (Or.inl ⟨by rfl, ?y4b⟩) ?_
  case y4b => ((intro w hSw; (try dsimp only at hSw); go_simp) <;> with_reducible rfl)
  (try simp only [Act.put, List.setIfInBounds_toArray, List.set_cons_zero, List.set_cons_succ])
  refine wpAnyH_done (by kernel_rfl) ?_ _
  clear hHeld
  obtain ⟨c0, c1, c2, c3⟩ := unhide HA
  obtain ⟨d0, d1, d2, d3⟩ := unhide H1
  go_wp2_with fail
  clear c0 c1 c2 c3 d0 d1 d2 d3
  refine (unhide HS1 _).mono ?_
  rintro _ w7 ⟨rfl, hb⟩
  have HB := hide (bthen (unhide HB) hb)
  have HA := hide ((unhide HA).below hb)
  have H1 := hide ((unhide H1).below hb)
  clear hb
  obtain ⟨c0, c1, c2, c3⟩ := unhide HA
  obtain ⟨d0, d1, d2, d3⟩ := unhide H1
  go_wp2_with fail
  go_ret
  exact ⟨rfl, unhide HB⟩
set_option maxRecDepth 100000 in
set_option maxHeartbeats 2000000 in
theorem cmp_i2t {w x y K1 X1 S1 K2 X2 S2 s1 s2 d0 r0 : Int} {n2 : Bool} (W : World) (HO1 : Hid (∀ W, Calls Try.prog 14 #[.int .i64 w, .int .u64 x] W fun r W' => r = .returned (.agg #[.bool true, .int .i64 K1, .int .i64 X1, .int .u64 S1]) ∧ Below W.heap.size W W')) (HO2 : Hid (∀ W, Calls Try.prog 14 #[.int .i64 w, .int .u64 y] W fun r W' => r = .returned (.agg #[.bool n2, .int .i64 K2, .int .i64 X2, .int .u64 S2]) ∧ Below W.heap.size W W')) (a3 : (K1 == 3) = false) (b3 : (K2 == 3) = false) (HS1 : Hid (∀ W, Calls Try.prog 59 #[.agg #[.bool true, .int .i64 K1, .int .i64 X1, .int .u64 S1]] W fun r W' => r = .returned (.int .i64 s1) ∧ Below W.heap.size W W')) (HS2 : Hid (∀ W, Calls Try.prog 59 #[.agg #[.bool n2, .int .i64 K2, .int .i64 X2, .int .u64 S2]] W fun r W' => r = .returned (.int .i64 s2) ∧ Below W.heap.size W W')) (h1 : ¬ s1 < s2) (h2 : ¬ s2 < s1) (h3 : (s1 == 0) = false) (a2 : (K1 == 2) = false) (b2 : (K2 == 2) = true) (h4 : IntKind.i64.wrap (K1 - K2) = d0) (h5 : IntKind.i64.wrap (-d0) = r0) :
    Calls Try.prog 24 #[.int .i64 w, .int .u64 x, .int .u64 y] W fun r W' => r = .returned (.int .i64 r0) ∧ Below W.heap.size W W' := by
  go_enter Try.func24, Try.ntmps24
  go_wp2_with fail
  refine (unhide HO1 _).mono ?_
  rintro _ w1 ⟨rfl, hb⟩
  have HB := hide (balloc hb (.cells #[.bool true, .int .i64 K1, .int .i64 X1, .int .u64 S1] 30))
  have HA := hide (at4_new w1 (.bool true) (.int .i64 K1) (.int .i64 X1) (.int .u64 S1) 30)
  clear hb
  go_wp2_with fail
  refine (unhide HO2 _).mono ?_
  rintro _ w2 ⟨rfl, hb⟩
  have HB := hide (balloc (bthen (unhide HB) hb) (.cells #[.bool n2, .int .i64 K2, .int .i64 X2, .int .u64 S2] 30))
  have HA := hide (((unhide HA).below hb).below (below1 w2 (.cells #[.bool n2, .int .i64 K2, .int .i64 X2, .int .u64 S2] 30)))
  have H1 := hide (at4_new w2 (.bool n2) (.int .i64 K2) (.int .i64 X2) (.int .u64 S2) 30)
  clear hb
  obtain ⟨c0, c1, c2, c3⟩ := unhide HA
  obtain ⟨d0, d1, d2, d3⟩ := unhide H1
  go_wp2_with fail
  clear c0 c1 c2 c3 d0 d1 d2 d3
  have HB := hide (unhide HB).drew
  have HA := hide ((unhide HA).below ((Below.refl _ _).drew))
  have H1 := hide ((unhide H1).below ((Below.refl _ _).drew))
  refine wp_region_held_drew (S := fun w' => (w'.cell? ⟨w1.heap.size, 0, none⟩ = some (.bool true) ∧ w'.cell? ⟨w1.heap.size, 1, none⟩ = some (.int .i64 K1) ∧ w'.cell? ⟨w1.heap.size, 2, none⟩ = some (.int .i64 X1) ∧ w'.cell? ⟨w1.heap.size, 3, none⟩ = some (.int .u64 S1)) ∧ (w'.cell? ⟨w2.heap.size, 0, none⟩ = some (.bool n2) ∧ w'.cell? ⟨w2.heap.size, 1, none⟩ = some (.int .i64 K2) ∧ w'.cell? ⟨w2.heap.size, 2, none⟩ = some (.int .i64 X2) ∧ w'.cell? ⟨w2.heap.size, 3, none⟩ = some (.int .u64 S2))) (by kernel_rfl) ?_ (fun hHeld => ?_)
  · (try dsimp only)
    exact ⟨unhide HA, unhide H1⟩
  refine lst0 5 (by kernel_rfl) ?_
  refine tkH 0 25 1 ?v0a rfl (by kernel_rfl) (by kernel_rfl) (fun _ _ _ h => h) (by assumption) (Or.inl ⟨by rfl, ?y0a⟩) ?_
  case y0a => ((intro w hSw; (try dsimp only at hSw); go_simp) <;> with_reducible rfl)
  (try simp only [Act.put, List.setIfInBounds_toArray, List.set_cons_zero, List.set_cons_succ])
  refine tkH 2 27 5 ?v2a rfl (by kernel_rfl) (by kernel_rfl) (fun _ _ _ h => h) (by assumption) (Or.inl ⟨by rfl, ?y2a⟩) ?_
  case y2a => ((intro w hSw; (try dsimp only at hSw); go_simp) <;> with_reducible rfl)
  (try simp only [Act.put, List.setIfInBounds_toArray, List.set_cons_zero, List.set_cons_succ])
  refine rdH 1 7 rfl (by kernel_rfl) (by kernel_rfl) (fun Kk hKk => ?_)
  go_simp
  refine (unhide HS1 _).mono ?_
  rintro _ w3 ⟨rfl, hb⟩
  have HB := hide (bthen (unhide HB) hb)
  have HA := hide ((unhide HA).below hb)
  have H1 := hide ((unhide H1).below hb)
  clear hb
  (try go_wp2_with fail)
  refine hKk.out _ _ ?_ (fun hHeld => ?_)
  · (try dsimp only)
    exact ⟨unhide HA, unhide H1⟩
  clear hKk Kk
  (try simp only [List.setIfInBounds_toArray, List.set_cons_zero, List.set_cons_succ])
  refine rdH 3 15 rfl (by kernel_rfl) (by kernel_rfl) (fun Kk hKk => ?_)
  go_simp
  refine (unhide HS2 _).mono ?_
  rintro _ w4 ⟨rfl, hb⟩
  have HB := hide (bthen (unhide HB) hb)
  have HA := hide ((unhide HA).below hb)
  have H1 := hide ((unhide H1).below hb)
  clear hb
  (try go_wp2_with fail)
  refine hKk.out _ _ ?_ (fun hHeld => ?_)
  · (try dsimp only)
    exact ⟨unhide HA, unhide H1⟩
  clear hKk Kk
  (try simp only [List.setIfInBounds_toArray, List.set_cons_zero, List.set_cons_succ])
  refine tkH 4 29 31 ?v4a rfl (by kernel_rfl) (by kernel_rfl) (fun _ _ _ h => h) (by assumption) (Or.inl ⟨by rfl, ?y4a⟩) ?_
  case y4a => ((intro w hSw; (try dsimp only at hSw); go_simp) <;> with_reducible rfl)
  (try simp only [Act.put, List.setIfInBounds_toArray, List.set_cons_zero, List.set_cons_succ])
  refine wpAnyH_done (by kernel_rfl) ?_ _
  clear hHeld
  obtain ⟨c0, c1, c2, c3⟩ := unhide HA
  obtain ⟨d0, d1, d2, d3⟩ := unhide H1
  go_wp2_with fail
  clear c0 c1 c2 c3 d0 d1 d2 d3
  have HB := hide (unhide HB).drew
  have HA := hide ((unhide HA).below ((Below.refl _ _).drew))
  have H1 := hide ((unhide H1).below ((Below.refl _ _).drew))
  refine wp_region_held_drew (S := fun w' => (w'.cell? ⟨w1.heap.size, 0, none⟩ = some (.bool true) ∧ w'.cell? ⟨w1.heap.size, 1, none⟩ = some (.int .i64 K1) ∧ w'.cell? ⟨w1.heap.size, 2, none⟩ = some (.int .i64 X1) ∧ w'.cell? ⟨w1.heap.size, 3, none⟩ = some (.int .u64 S1)) ∧ (w'.cell? ⟨w2.heap.size, 0, none⟩ = some (.bool n2) ∧ w'.cell? ⟨w2.heap.size, 1, none⟩ = some (.int .i64 K2) ∧ w'.cell? ⟨w2.heap.size, 2, none⟩ = some (.int .i64 X2) ∧ w'.cell? ⟨w2.heap.size, 3, none⟩ = some (.int .u64 S2))) (by kernel_rfl) ?_ (fun hHeld => ?_)
  · (try dsimp only)
    exact ⟨unhide HA, unhide H1⟩
  refine lst0 5 (by kernel_rfl) ?_
  refine tkH 0 30 1 ?v0b rfl (by kernel_rfl) (by kernel_rfl) (fun _ _ _ h => h) (by assumption) (Or.inl ⟨by rfl, ?y0b⟩) ?_
  case y0b => ((intro w hSw; (try dsimp only at hSw); go_simp) <;> with_reducible rfl)
  (try simp only [Act.put, List.setIfInBounds_toArray, List.set_cons_zero, List.set_cons_succ])
  refine tkH 2 32 5 ?v2b rfl (by kernel_rfl) (by kernel_rfl) (fun _ _ _ h => h) (by assumption) (Or.inl ⟨by rfl, ?y2b⟩) ?_
  case y2b => ((intro w hSw; (try dsimp only at hSw); go_simp) <;> with_reducible rfl)
  (try simp only [Act.put, List.setIfInBounds_toArray, List.set_cons_zero, List.set_cons_succ])
  refine rdH 1 7 rfl (by kernel_rfl) (by kernel_rfl) (fun Kk hKk => ?_)
  go_simp
  refine (unhide HS1 _).mono ?_
  rintro _ w5 ⟨rfl, hb⟩
  have HB := hide (bthen (unhide HB) hb)
  have HA := hide ((unhide HA).below hb)
  have H1 := hide ((unhide H1).below hb)
  clear hb
  (try go_wp2_with fail)
  refine hKk.out _ _ ?_ (fun hHeld => ?_)
  · (try dsimp only)
    exact ⟨unhide HA, unhide H1⟩
  clear hKk Kk
  (try simp only [List.setIfInBounds_toArray, List.set_cons_zero, List.set_cons_succ])
  refine rdH 3 15 rfl (by kernel_rfl) (by kernel_rfl) (fun Kk hKk => ?_)
  go_simp
  refine (unhide HS2 _).mono ?_
  rintro _ w6 ⟨rfl, hb⟩
  have HB := hide (bthen (unhide HB) hb)
  have HA := hide ((unhide HA).below hb)
  have H1 := hide ((unhide H1).below hb)
  clear hb
  (try go_wp2_with fail)
  refine hKk.out _ _ ?_ (fun hHeld => ?_)
  · (try dsimp only)
    exact ⟨unhide HA, unhide H1⟩
  clear hKk Kk
  (try simp only [List.setIfInBounds_toArray, List.set_cons_zero, List.set_cons_succ])
  refine tkH 4 34 31 ?v4b rfl (by kernel_rfl) (by kernel_rfl) (fun _ _ _ h => h) (by assumption) (Or.inl ⟨by rfl, ?y4b⟩) ?_
  case y4b => ((intro w hSw; (try dsimp only at hSw); go_simp) <;> with_reducible rfl)
  (try simp only [Act.put, List.setIfInBounds_toArray, List.set_cons_zero, List.set_cons_succ])
  refine wpAnyH_done (by kernel_rfl) ?_ _
  clear hHeld
  obtain ⟨c0, c1, c2, c3⟩ := unhide HA
  obtain ⟨d0, d1, d2, d3⟩ := unhide H1
  go_wp2_with fail
  clear c0 c1 c2 c3 d0 d1 d2 d3
  refine (unhide HS1 _).mono ?_
  rintro _ w7 ⟨rfl, hb⟩
  have HB := hide (bthen (unhide HB) hb)
  have HA := hide ((unhide HA).below hb)
  have H1 := hide ((unhide H1).below hb)
  clear hb
  obtain ⟨c0, c1, c2, c3⟩ := unhide HA
  obtain ⟨d0, d1, d2, d3⟩ := unhide H1
  go_wp2_with fail
  go_ret
  exact ⟨rfl, unhide HB⟩

end Go.Proofs.Ytepdmpcgkecjiaa
