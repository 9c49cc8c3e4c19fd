/- The statement RoundRises: its walk. -/
import Derived.Test.YtiklaalcmfkddaaWhole
import Derived.Test.YtiklaalcmfkddaaWAdd
namespace Go.Proofs.Ytiklaalcmfkddaa
open Go.RowKit
open Go.Proofs.Ytiklaalcmfkddaa.W

theorem fresh_room2 {N b : Nat} {v0 v1 : Value} {w : World} (h : Fresh N #[v0, v1] b w) : Room b 2 w := fun o ho => by
  refine ⟨?_, h.thawed o⟩
  match o, ho with
  | 0, _ => exact ⟨_, h.cell 0 _ rfl⟩
  | 1, _ => exact ⟨_, h.cell 1 _ rfl⟩
theorem set_same2 {b o : Nat} {w : World} (h : Room b 2 w) (ho : o < 2) (v : Value) : (w.setCell ⟨b, o, none⟩ v).cell? ⟨b, o, none⟩ = some v := by
  obtain ⟨⟨u, h1⟩, _⟩ := h o ho
  exact World.cell?_setCell_same _ _ _ h1
theorem at2_set2 {b : Nat} {w : World} (h : Room b 2 w) (v0 v1 : Value) : At2 b v0 v1 ((w.setCell ⟨b, 0, none⟩ v0).setCell ⟨b, 1, none⟩ v1) :=
  ⟨set_off _ (by omega) (set_same2 h (by omega) _), set_same2 (h.set _ _) (by omega) _⟩
theorem stable_at5 (b : Nat) (x y z u v : Value) : Stable (At5 b x y z u v) := fun _ _ h k => h.below k

set_option maxRecDepth 100000 in
set_option maxHeartbeats 4000000 in
theorem rises_no {w h l X : Int} {n m : Bool} (W : World) (c1 : (w != 32) = true) (c2 : (w != 64) = true) :
    Calls Try.prog 6 #[.int .i64 w, .agg #[.bool n, .int .u64 h, .int .u64 l, .int .i64 X, .bool m]] W fun r W' => r = .returned (.bool true) ∧ Below W.heap.size W W' := by
  go_enter Try.func6, Try.ntmps6
  go_wp2_with fail
  refine (awake_any _).mono ?_
  rintro _ w1 ⟨rfl, hb⟩
  have HA := hide ((at5_new W (.bool n) (.int .u64 h) (.int .u64 l) (.int .i64 X) (.bool m) 26).below hb)
  have HB := hide (bthen (below1 _ _) hb)
  clear hb
  obtain ⟨a0, a1, a2, a3, a4⟩ := unhide HA
  go_wp2_with fail
  go_ret
  exact ⟨rfl, unhide HB⟩
set_option maxRecDepth 100000 in
set_option maxHeartbeats 4000000 in
theorem rises_lo {w h l X : Int} {n m : Bool} (W : World) (hk : ((w != 32) = false) ∨ ((w != 32) = true ∧ (w != 64) = false)) (x0 : decide (X < -1073741824) = true) :
    Calls Try.prog 6 #[.int .i64 w, .agg #[.bool n, .int .u64 h, .int .u64 l, .int .i64 X, .bool m]] W fun r W' => r = .returned (.bool true) ∧ Below W.heap.size W W' := by
  rcases hk with k1 | ⟨k1, k2⟩
  all_goals
    go_enter Try.func6, Try.ntmps6
    go_wp2_with fail
    refine (awake_any _).mono ?_
    rintro _ w1 ⟨rfl, hb⟩
    have HA := hide ((at5_new W (.bool n) (.int .u64 h) (.int .u64 l) (.int .i64 X) (.bool m) 26).below hb)
    have HB := hide (bthen (below1 _ _) hb)
    clear hb
    obtain ⟨a0, a1, a2, a3, a4⟩ := unhide HA
    go_wp2_with fail
    go_ret
    exact ⟨rfl, unhide HB⟩
set_option maxRecDepth 100000 in
set_option maxHeartbeats 4000000 in
theorem rises_hi {w h l X : Int} {n m : Bool} (W : World) (hk : ((w != 32) = false) ∨ ((w != 32) = true ∧ (w != 64) = false)) (x0 : decide (X < -1073741824) = false) (x1 : decide (1073741824 < X) = true) :
    Calls Try.prog 6 #[.int .i64 w, .agg #[.bool n, .int .u64 h, .int .u64 l, .int .i64 X, .bool m]] W fun r W' => r = .returned (.bool true) ∧ Below W.heap.size W W' := by
  rcases hk with k1 | ⟨k1, k2⟩
  all_goals
    go_enter Try.func6, Try.ntmps6
    go_wp2_with fail
    refine (awake_any _).mono ?_
    rintro _ w1 ⟨rfl, hb⟩
    have HA := hide ((at5_new W (.bool n) (.int .u64 h) (.int .u64 l) (.int .i64 X) (.bool m) 26).below hb)
    have HB := hide (bthen (below1 _ _) hb)
    clear hb
    obtain ⟨a0, a1, a2, a3, a4⟩ := unhide HA
    go_wp2_with fail
    go_ret
    exact ⟨rfl, unhide HB⟩
set_option maxRecDepth 100000 in
set_option maxHeartbeats 4000000 in
theorem rises_z {w h l X A B h1 l1 : Int} {n m : Bool} (W : World) (hk : ((w != 32) = false) ∨ ((w != 32) = true ∧ (w != 64) = false)) (x0 : decide (X < -1073741824) = false) (x1 : decide (1073741824 < X) = false) (kx : IntKind.i64.wrap (X + 1) = X + 1)
    (HPa : Hid (∀ W, Calls Try.prog 8 #[.int .i64 w, .bool false, .agg #[.int .u64 h, .int .u64 l], .int .i64 X, .bool m] W fun r W' => r = .returned (.int .u64 A) ∧ Below W.heap.size W W'))
    (HPb : Hid (∀ W, Calls Try.prog 8 #[.int .i64 w, .bool false, .agg #[.int .u64 h, .int .u64 l], .int .i64 (X + 1), .bool m] W fun r W' => r = .returned (.int .u64 B) ∧ Below W.heap.size W W')) (kb : ¬ B < A)
    (HU : Hid (∀ W, Calls Try.prog 22 #[.agg #[.int .u64 h, .int .u64 l], .agg #[.int .u64 (hi (1 : Int).toNat), .int .u64 (lo (1 : Int).toNat)]] W fun r W' => r = .returned (.agg #[.int .u64 h1, .int .u64 l1]) ∧ Below W.heap.size W W')) (z1 : (h1 == 0) = true) (z2 : (l1 == 0) = true) :
    Calls Try.prog 6 #[.int .i64 w, .agg #[.bool n, .int .u64 h, .int .u64 l, .int .i64 X, .bool m]] W fun r W' => r = .returned (.bool true) ∧ Below W.heap.size W W' := by
  rcases hk with k1 | ⟨k1, k2⟩
  all_goals
    go_enter Try.func6, Try.ntmps6
    go_wp2_with fail
    refine (awake_any _).mono ?_
    rintro _ w1 ⟨rfl, hb⟩
    have HA := hide ((at5_new W (.bool n) (.int .u64 h) (.int .u64 l) (.int .i64 X) (.bool m) 26).below hb)
    have HB := hide (bthen (below1 _ _) hb)
    clear hb
    obtain ⟨a0, a1, a2, a3, a4⟩ := unhide HA
    go_wp2_with fail
    refine (unhide HPa _).mono ?_
    rintro _ w2 ⟨rfl, hbl⟩
    have HB := hide (bthen (unhide HB) hbl)
    have HA := hide ((unhide HA).below hbl)
    clear hbl a0 a1 a2 a3 a4
    obtain ⟨a0, a1, a2, a3, a4⟩ := unhide HA
    go_wp2_with fail
    refine (unhide HPb _).mono ?_
    rintro _ w3 ⟨rfl, hbl⟩
    have HB := hide (bthen (unhide HB) hbl)
    have HA := hide ((unhide HA).below hbl)
    clear hbl a0 a1 a2 a3 a4
    obtain ⟨a0, a1, a2, a3, a4⟩ := unhide HA
    go_wp2_with fail
    clear a0 a1 a2 a3 a4
    have HB := hide (unhide HB).drew
    have HA := hide ((unhide HA).below ((Below.refl _ _).drew))
    have hz3 : W.heap.size + 1 ≤ w3.drew.heap.size := by have := lt_of_cell (unhide HA).1; omega
    refine wp_region_held_drew (S := fun w' => w'.cell? ⟨W.heap.size, 0, none⟩ = some (.bool n) ∧ w'.cell? ⟨W.heap.size, 1, none⟩ = some (.int .u64 h) ∧ w'.cell? ⟨W.heap.size, 2, none⟩ = some (.int .u64 l) ∧ w'.cell? ⟨W.heap.size, 3, none⟩ = some (.int .i64 X) ∧ w'.cell? ⟨W.heap.size, 4, none⟩ = some (.bool m)) (by kernel_rfl) ?_ (fun hHeld => ?_)
    · (try dsimp only)
      exact unhide HA
    refine wo_start (N := W.heap.size + 1) (i1 := 4) (d1 := 6) (v1 := #[.int .u64 0, .int .u64 0]) (t1 := 24) (f := 1) (n := 4) (T := fun w' => Below W.heap.size W w') (by kernel_rfl) (by kernel_rfl) (fun _ _ _ _ _ h => h) (stable_at5 _ _ _ _ _ _) ?_ (stable_below W) hHeld (unhide HB) (hz3) ?_
    · intro a w K h
      unfold wpOp
      go_simp
      exact Or.inl h
    clear hHeld
    refine wo_take (i := 0) (oi := { dst := some 44, op := _, type := _, pos := _, after := _, guard := _ }) rfl (by kernel_rfl) (by kernel_rfl) (fun _ _ _ h => h) (Or.inl ⟨by rfl, fun w hSw => by (try dsimp only at hSw); go_simp; with_reducible rfl⟩) ?_
    (try simp only [Act.put, List.setIfInBounds_toArray, List.set_cons_zero, List.set_cons_succ])
    refine wo_take (i := 1) (oi := { dst := some 45, op := _, type := _, pos := _, after := _, guard := _ }) rfl (by kernel_rfl) (by kernel_rfl) (fun _ _ _ h => h) (Or.inl ⟨by rfl, fun w hSw => by (try dsimp only at hSw); go_simp; with_reducible rfl⟩) ?_
    (try simp only [Act.put, List.setIfInBounds_toArray, List.set_cons_zero, List.set_cons_succ])
    refine wo_call (c := 2) (o := { dst := some 46, op := _, type := _, pos := _, after := _, guard := _ }) rfl (by kernel_rfl) (by kernel_rfl) (fun u hSu hTu Kk hKk => ?_)
    go_simp
    refine (of_n 1 _ (by omega) (by omega)).mono ?_
    rintro _ wn ⟨rfl, hbl⟩
    have HTn := hide (bthen hTu hbl)
    clear hTu hSu
    (try go_wp2_with fail)
    refine hKk.out _ _ (fun w' => Below W.heap.size W w') (by assumption) (stable_below W) (unhide HTn) ?_
    clear hKk Kk HTn
    (try simp only [Act.put, List.setIfInBounds_toArray, List.set_cons_zero, List.set_cons_succ])
    refine wo_call (c := 3) (o := { dst := some 47, op := _, type := _, pos := _, after := _, guard := _ }) rfl (by kernel_rfl) (by kernel_rfl) (fun u hSu hTu Kk hKk => ?_)
    go_simp
    refine (unhide HU _).mono ?_
    rintro _ wn ⟨rfl, hbl⟩
    have HTn := hide (bthen hTu hbl)
    clear hTu hSu
    (try go_wp2_with fail)
    refine hKk.out _ _ (fun w' => Below W.heap.size W w') (by assumption) (stable_below W) (unhide HTn) ?_
    clear hKk Kk HTn
    (try simp only [Act.put, List.setIfInBounds_toArray, List.set_cons_zero, List.set_cons_succ])
    refine wo_fin (by kernel_rfl) (fun wf b1 hSu hTu k1 => ?_)
    (try simp only [Act.put, List.setIfInBounds_toArray, List.set_cons_zero, List.set_cons_succ])
    unfold ptr
    have zb := k1.base
    have HRm := hide (fresh_room2 k1)
    obtain ⟨⟨v0, c0⟩, f0⟩ := (unhide HRm) 0 (by omega)
    obtain ⟨⟨v1, c1⟩, f1⟩ := (unhide HRm) 1 (by omega)
    refine anyH_at #[true, true, true, true, true, false] (by kernel_rfl) ?_
    refine wpAnyH_ready (rs := [5]) (by kernel_rfl) (by simp) ?_
    refine AllReadyH.cons (o := { dst := none, op := _, type := _, pos := _, after := _, guard := _ }) rfl (fun Kk hKk => ?_) AllReadyH.nil
    go_simp
    refine hKk.out _ _ ?_ (fun hHeld => ?_)
    · (try dsimp only)
      exact (At5.set (At5.set hSu (by omega) _ _) (by omega) _ _)
    clear hKk Kk
    refine wpAnyH_done (by kernel_rfl) ?_ _
    have HA2 := hide (at2_set2 (unhide HRm) (.int .u64 h1) (.int .u64 l1))
    have HB := hide (bset (bset hTu b1 (by omega) 0 (.int .u64 h1)) b1 (by omega) 1 (.int .u64 l1))
    have HA := hide hHeld
    clear hHeld hSu hTu k1 c0 c1 f0 f1
    generalize (wf.setCell ⟨b1, 0, none⟩ (.int .u64 h1)).setCell ⟨b1, 1, none⟩ (.int .u64 l1) = wx at *
    obtain ⟨a0, a1, a2, a3, a4⟩ := unhide HA
    obtain ⟨u0, u1⟩ := unhide HA2
    go_wp2_with fail
    go_ret
    exact ⟨rfl, unhide HB⟩
set_option maxRecDepth 100000 in
set_option maxHeartbeats 4000000 in
theorem rises_h {w h l X A B D h1 l1 : Int} {n m : Bool} (W : World) (hk : ((w != 32) = false) ∨ ((w != 32) = true ∧ (w != 64) = false)) (x0 : decide (X < -1073741824) = false) (x1 : decide (1073741824 < X) = false) (kx : IntKind.i64.wrap (X + 1) = X + 1)
    (HPa : Hid (∀ W, Calls Try.prog 8 #[.int .i64 w, .bool false, .agg #[.int .u64 h, .int .u64 l], .int .i64 X, .bool m] W fun r W' => r = .returned (.int .u64 A) ∧ Below W.heap.size W W'))
    (HPb : Hid (∀ W, Calls Try.prog 8 #[.int .i64 w, .bool false, .agg #[.int .u64 h, .int .u64 l], .int .i64 (X + 1), .bool m] W fun r W' => r = .returned (.int .u64 B) ∧ Below W.heap.size W W')) (kb : ¬ B < A)
    (HU : Hid (∀ W, Calls Try.prog 22 #[.agg #[.int .u64 h, .int .u64 l], .agg #[.int .u64 (hi (1 : Int).toNat), .int .u64 (lo (1 : Int).toNat)]] W fun r W' => r = .returned (.agg #[.int .u64 h1, .int .u64 l1]) ∧ Below W.heap.size W W')) (z1 : (h1 == 0) = false)
    (HPd : Hid (∀ W, Calls Try.prog 8 #[.int .i64 w, .bool false, .agg #[.int .u64 h1, .int .u64 l1], .int .i64 X, .bool m] W fun r W' => r = .returned (.int .u64 D) ∧ Below W.heap.size W W')) (kd : A ≤ D) :
    Calls Try.prog 6 #[.int .i64 w, .agg #[.bool n, .int .u64 h, .int .u64 l, .int .i64 X, .bool m]] W fun r W' => r = .returned (.bool true) ∧ Below W.heap.size W W' := by
  rcases hk with k1 | ⟨k1, k2⟩
  all_goals
    go_enter Try.func6, Try.ntmps6
    go_wp2_with fail
    refine (awake_any _).mono ?_
    rintro _ w1 ⟨rfl, hb⟩
    have HA := hide ((at5_new W (.bool n) (.int .u64 h) (.int .u64 l) (.int .i64 X) (.bool m) 26).below hb)
    have HB := hide (bthen (below1 _ _) hb)
    clear hb
    obtain ⟨a0, a1, a2, a3, a4⟩ := unhide HA
    go_wp2_with fail
    refine (unhide HPa _).mono ?_
    rintro _ w2 ⟨rfl, hbl⟩
    have HB := hide (bthen (unhide HB) hbl)
    have HA := hide ((unhide HA).below hbl)
    clear hbl a0 a1 a2 a3 a4
    obtain ⟨a0, a1, a2, a3, a4⟩ := unhide HA
    go_wp2_with fail
    refine (unhide HPb _).mono ?_
    rintro _ w3 ⟨rfl, hbl⟩
    have HB := hide (bthen (unhide HB) hbl)
    have HA := hide ((unhide HA).below hbl)
    clear hbl a0 a1 a2 a3 a4
    obtain ⟨a0, a1, a2, a3, a4⟩ := unhide HA
    go_wp2_with fail
    clear a0 a1 a2 a3 a4
    have HB := hide (unhide HB).drew
    have HA := hide ((unhide HA).below ((Below.refl _ _).drew))
    have hz3 : W.heap.size + 1 ≤ w3.drew.heap.size := by have := lt_of_cell (unhide HA).1; omega
    refine wp_region_held_drew (S := fun w' => w'.cell? ⟨W.heap.size, 0, none⟩ = some (.bool n) ∧ w'.cell? ⟨W.heap.size, 1, none⟩ = some (.int .u64 h) ∧ w'.cell? ⟨W.heap.size, 2, none⟩ = some (.int .u64 l) ∧ w'.cell? ⟨W.heap.size, 3, none⟩ = some (.int .i64 X) ∧ w'.cell? ⟨W.heap.size, 4, none⟩ = some (.bool m)) (by kernel_rfl) ?_ (fun hHeld => ?_)
    · (try dsimp only)
      exact unhide HA
    refine wo_start (N := W.heap.size + 1) (i1 := 4) (d1 := 6) (v1 := #[.int .u64 0, .int .u64 0]) (t1 := 24) (f := 1) (n := 4) (T := fun w' => Below W.heap.size W w') (by kernel_rfl) (by kernel_rfl) (fun _ _ _ _ _ h => h) (stable_at5 _ _ _ _ _ _) ?_ (stable_below W) hHeld (unhide HB) (hz3) ?_
    · intro a w K h
      unfold wpOp
      go_simp
      exact Or.inl h
    clear hHeld
    refine wo_take (i := 0) (oi := { dst := some 44, op := _, type := _, pos := _, after := _, guard := _ }) rfl (by kernel_rfl) (by kernel_rfl) (fun _ _ _ h => h) (Or.inl ⟨by rfl, fun w hSw => by (try dsimp only at hSw); go_simp; with_reducible rfl⟩) ?_
    (try simp only [Act.put, List.setIfInBounds_toArray, List.set_cons_zero, List.set_cons_succ])
    refine wo_take (i := 1) (oi := { dst := some 45, op := _, type := _, pos := _, after := _, guard := _ }) rfl (by kernel_rfl) (by kernel_rfl) (fun _ _ _ h => h) (Or.inl ⟨by rfl, fun w hSw => by (try dsimp only at hSw); go_simp; with_reducible rfl⟩) ?_
    (try simp only [Act.put, List.setIfInBounds_toArray, List.set_cons_zero, List.set_cons_succ])
    refine wo_call (c := 2) (o := { dst := some 46, op := _, type := _, pos := _, after := _, guard := _ }) rfl (by kernel_rfl) (by kernel_rfl) (fun u hSu hTu Kk hKk => ?_)
    go_simp
    refine (of_n 1 _ (by omega) (by omega)).mono ?_
    rintro _ wn ⟨rfl, hbl⟩
    have HTn := hide (bthen hTu hbl)
    clear hTu hSu
    (try go_wp2_with fail)
    refine hKk.out _ _ (fun w' => Below W.heap.size W w') (by assumption) (stable_below W) (unhide HTn) ?_
    clear hKk Kk HTn
    (try simp only [Act.put, List.setIfInBounds_toArray, List.set_cons_zero, List.set_cons_succ])
    refine wo_call (c := 3) (o := { dst := some 47, op := _, type := _, pos := _, after := _, guard := _ }) rfl (by kernel_rfl) (by kernel_rfl) (fun u hSu hTu Kk hKk => ?_)
    go_simp
    refine (unhide HU _).mono ?_
    rintro _ wn ⟨rfl, hbl⟩
    have HTn := hide (bthen hTu hbl)
    clear hTu hSu
    (try go_wp2_with fail)
    refine hKk.out _ _ (fun w' => Below W.heap.size W w') (by assumption) (stable_below W) (unhide HTn) ?_
    clear hKk Kk HTn
    (try simp only [Act.put, List.setIfInBounds_toArray, List.set_cons_zero, List.set_cons_succ])
    refine wo_fin (by kernel_rfl) (fun wf b1 hSu hTu k1 => ?_)
    (try simp only [Act.put, List.setIfInBounds_toArray, List.set_cons_zero, List.set_cons_succ])
    unfold ptr
    have zb := k1.base
    have HRm := hide (fresh_room2 k1)
    obtain ⟨⟨v0, c0⟩, f0⟩ := (unhide HRm) 0 (by omega)
    obtain ⟨⟨v1, c1⟩, f1⟩ := (unhide HRm) 1 (by omega)
    refine anyH_at #[true, true, true, true, true, false] (by kernel_rfl) ?_
    refine wpAnyH_ready (rs := [5]) (by kernel_rfl) (by simp) ?_
    refine AllReadyH.cons (o := { dst := none, op := _, type := _, pos := _, after := _, guard := _ }) rfl (fun Kk hKk => ?_) AllReadyH.nil
    go_simp
    refine hKk.out _ _ ?_ (fun hHeld => ?_)
    · (try dsimp only)
      exact (At5.set (At5.set hSu (by omega) _ _) (by omega) _ _)
    clear hKk Kk
    refine wpAnyH_done (by kernel_rfl) ?_ _
    have HA2 := hide (at2_set2 (unhide HRm) (.int .u64 h1) (.int .u64 l1))
    have HB := hide (bset (bset hTu b1 (by omega) 0 (.int .u64 h1)) b1 (by omega) 1 (.int .u64 l1))
    have HA := hide hHeld
    clear hHeld hSu hTu k1 c0 c1 f0 f1
    generalize (wf.setCell ⟨b1, 0, none⟩ (.int .u64 h1)).setCell ⟨b1, 1, none⟩ (.int .u64 l1) = wx at *
    obtain ⟨a0, a1, a2, a3, a4⟩ := unhide HA
    obtain ⟨u0, u1⟩ := unhide HA2
    go_wp2_with fail
    refine (unhide HPd _).mono ?_
    rintro _ w5 ⟨rfl, hbl⟩
    have HB := hide (bthen (unhide HB) hbl)
    go_wp2_with fail
    go_ret
    exact ⟨rfl, unhide HB⟩
set_option maxRecDepth 100000 in
set_option maxHeartbeats 4000000 in
theorem rises_l {w h l X A B D h1 l1 : Int} {n m : Bool} (W : World) (hk : ((w != 32) = false) ∨ ((w != 32) = true ∧ (w != 64) = false)) (x0 : decide (X < -1073741824) = false) (x1 : decide (1073741824 < X) = false) (kx : IntKind.i64.wrap (X + 1) = X + 1)
    (HPa : Hid (∀ W, Calls Try.prog 8 #[.int .i64 w, .bool false, .agg #[.int .u64 h, .int .u64 l], .int .i64 X, .bool m] W fun r W' => r = .returned (.int .u64 A) ∧ Below W.heap.size W W'))
    (HPb : Hid (∀ W, Calls Try.prog 8 #[.int .i64 w, .bool false, .agg #[.int .u64 h, .int .u64 l], .int .i64 (X + 1), .bool m] W fun r W' => r = .returned (.int .u64 B) ∧ Below W.heap.size W W')) (kb : ¬ B < A)
    (HU : Hid (∀ W, Calls Try.prog 22 #[.agg #[.int .u64 h, .int .u64 l], .agg #[.int .u64 (hi (1 : Int).toNat), .int .u64 (lo (1 : Int).toNat)]] W fun r W' => r = .returned (.agg #[.int .u64 h1, .int .u64 l1]) ∧ Below W.heap.size W W')) (z1 : (h1 == 0) = true) (z2 : (l1 == 0) = false)
    (HPd : Hid (∀ W, Calls Try.prog 8 #[.int .i64 w, .bool false, .agg #[.int .u64 h1, .int .u64 l1], .int .i64 X, .bool m] W fun r W' => r = .returned (.int .u64 D) ∧ Below W.heap.size W W')) (kd : A ≤ D) :
    Calls Try.prog 6 #[.int .i64 w, .agg #[.bool n, .int .u64 h, .int .u64 l, .int .i64 X, .bool m]] W fun r W' => r = .returned (.bool true) ∧ Below W.heap.size W W' := by
  rcases hk with k1 | ⟨k1, k2⟩
  all_goals
    go_enter Try.func6, Try.ntmps6
    go_wp2_with fail
    refine (awake_any _).mono ?_
    rintro _ w1 ⟨rfl, hb⟩
    have HA := hide ((at5_new W (.bool n) (.int .u64 h) (.int .u64 l) (.int .i64 X) (.bool m) 26).below hb)
    have HB := hide (bthen (below1 _ _) hb)
    clear hb
    obtain ⟨a0, a1, a2, a3, a4⟩ := unhide HA
    go_wp2_with fail
    refine (unhide HPa _).mono ?_
    rintro _ w2 ⟨rfl, hbl⟩
    have HB := hide (bthen (unhide HB) hbl)
    have HA := hide ((unhide HA).below hbl)
    clear hbl a0 a1 a2 a3 a4
    obtain ⟨a0, a1, a2, a3, a4⟩ := unhide HA
    go_wp2_with fail
    refine (unhide HPb _).mono ?_
    rintro _ w3 ⟨rfl, hbl⟩
    have HB := hide (bthen (unhide HB) hbl)
    have HA := hide ((unhide HA).below hbl)
    clear hbl a0 a1 a2 a3 a4
    obtain ⟨a0, a1, a2, a3, a4⟩ := unhide HA
    go_wp2_with fail
    clear a0 a1 a2 a3 a4
    have HB := hide (unhide HB).drew
    have HA := hide ((unhide HA).below ((Below.refl _ _).drew))
    have hz3 : W.heap.size + 1 ≤ w3.drew.heap.size := by have := lt_of_cell (unhide HA).1; omega
    refine wp_region_held_drew (S := fun w' => w'.cell? ⟨W.heap.size, 0, none⟩ = some (.bool n) ∧ w'.cell? ⟨W.heap.size, 1, none⟩ = some (.int .u64 h) ∧ w'.cell? ⟨W.heap.size, 2, none⟩ = some (.int .u64 l) ∧ w'.cell? ⟨W.heap.size, 3, none⟩ = some (.int .i64 X) ∧ w'.cell? ⟨W.heap.size, 4, none⟩ = some (.bool m)) (by kernel_rfl) ?_ (fun hHeld => ?_)
    · (try dsimp only)
      exact unhide HA
    refine wo_start (N := W.heap.size + 1) (i1 := 4) (d1 := 6) (v1 := #[.int .u64 0, .int .u64 0]) (t1 := 24) (f := 1) (n := 4) (T := fun w' => Below W.heap.size W w') (by kernel_rfl) (by kernel_rfl) (fun _ _ _ _ _ h => h) (stable_at5 _ _ _ _ _ _) ?_ (stable_below W) hHeld (unhide HB) (hz3) ?_
    · intro a w K h
      unfold wpOp
      go_simp
      exact Or.inl h
    clear hHeld
    refine wo_take (i := 0) (oi := { dst := some 44, op := _, type := _, pos := _, after := _, guard := _ }) rfl (by kernel_rfl) (by kernel_rfl) (fun _ _ _ h => h) (Or.inl ⟨by rfl, fun w hSw => by (try dsimp only at hSw); go_simp; with_reducible rfl⟩) ?_
    (try simp only [Act.put, List.setIfInBounds_toArray, List.set_cons_zero, List.set_cons_succ])
    refine wo_take (i := 1) (oi := { dst := some 45, op := _, type := _, pos := _, after := _, guard := _ }) rfl (by kernel_rfl) (by kernel_rfl) (fun _ _ _ h => h) (Or.inl ⟨by rfl, fun w hSw => by (try dsimp only at hSw); go_simp; with_reducible rfl⟩) ?_
    (try simp only [Act.put, List.setIfInBounds_toArray, List.set_cons_zero, List.set_cons_succ])
    refine wo_call (c := 2) (o := { dst := some 46, op := _, type := _, pos := _, after := _, guard := _ }) rfl (by kernel_rfl) (by kernel_rfl) (fun u hSu hTu Kk hKk => ?_)
    go_simp
    refine (of_n 1 _ (by omega) (by omega)).mono ?_
    rintro _ wn ⟨rfl, hbl⟩
    have HTn := hide (bthen hTu hbl)
    clear hTu hSu
    (try go_wp2_with fail)
    refine hKk.out _ _ (fun w' => Below W.heap.size W w') (by assumption) (stable_below W) (unhide HTn) ?_
    clear hKk Kk HTn
    (try simp only [Act.put, List.setIfInBounds_toArray, List.set_cons_zero, List.set_cons_succ])
    refine wo_call (c := 3) (o := { dst := some 47, op := _, type := _, pos := _, after := _, guard := _ }) rfl (by kernel_rfl) (by kernel_rfl) (fun u hSu hTu Kk hKk => ?_)
    go_simp
    refine (unhide HU _).mono ?_
    rintro _ wn ⟨rfl, hbl⟩
    have HTn := hide (bthen hTu hbl)
    clear hTu hSu
    (try go_wp2_with fail)
    refine hKk.out _ _ (fun w' => Below W.heap.size W w') (by assumption) (stable_below W) (unhide HTn) ?_
    clear hKk Kk HTn
    (try simp only [Act.put, List.setIfInBounds_toArray, List.set_cons_zero, List.set_cons_succ])
    refine wo_fin (by kernel_rfl) (fun wf b1 hSu hTu k1 => ?_)
    (try simp only [Act.put, List.setIfInBounds_toArray, List.set_cons_zero, List.set_cons_succ])
    unfold ptr
    have zb := k1.base
    have HRm := hide (fresh_room2 k1)
    obtain ⟨⟨v0, c0⟩, f0⟩ := (unhide HRm) 0 (by omega)
    obtain ⟨⟨v1, c1⟩, f1⟩ := (unhide HRm) 1 (by omega)
    refine anyH_at #[true, true, true, true, true, false] (by kernel_rfl) ?_
    refine wpAnyH_ready (rs := [5]) (by kernel_rfl) (by simp) ?_
    refine AllReadyH.cons (o := { dst := none, op := _, type := _, pos := _, after := _, guard := _ }) rfl (fun Kk hKk => ?_) AllReadyH.nil
    go_simp
    refine hKk.out _ _ ?_ (fun hHeld => ?_)
    · (try dsimp only)
      exact (At5.set (At5.set hSu (by omega) _ _) (by omega) _ _)
    clear hKk Kk
    refine wpAnyH_done (by kernel_rfl) ?_ _
    have HA2 := hide (at2_set2 (unhide HRm) (.int .u64 h1) (.int .u64 l1))
    have HB := hide (bset (bset hTu b1 (by omega) 0 (.int .u64 h1)) b1 (by omega) 1 (.int .u64 l1))
    have HA := hide hHeld
    clear hHeld hSu hTu k1 c0 c1 f0 f1
    generalize (wf.setCell ⟨b1, 0, none⟩ (.int .u64 h1)).setCell ⟨b1, 1, none⟩ (.int .u64 l1) = wx at *
    obtain ⟨a0, a1, a2, a3, a4⟩ := unhide HA
    obtain ⟨u0, u1⟩ := unhide HA2
    go_wp2_with fail
    refine (unhide HPd _).mono ?_
    rintro _ w5 ⟨rfl, hbl⟩
    have HB := hide (bthen (unhide HB) hbl)
    go_wp2_with fail
    go_ret
    exact ⟨rfl, unhide HB⟩

end Go.Proofs.Ytiklaalcmfkddaa
