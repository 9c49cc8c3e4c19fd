/- The contract of package shape's closeFinite. -/
import Derived.Test.YtpbgpdmffejdgaaGreatDoorNew
import Derived.Test.YtpbgpdmffejdgaaGreatDoorOpen
import Derived.Test.YtpbgpdmffejdgaaGreatDoorTk
namespace Go.Proofs.YtpbgpdmffejdgaaGreatDoor
open Go.RowKit

theorem At2.set {b c : Nat} {x y : Value} {w : World} (h : At2 b x y w) (hc : b ≠ c) (o : Nat) (k : Value) : At2 b x y (w.setCell ⟨c, o, none⟩ k) :=
  ⟨keep_set _ _ _ hc h.1, keep_set _ _ _ hc h.2⟩
theorem At4.set {b c : Nat} {x y z u : Value} {w : World} (h : At4 b x y z u w) (hc : b ≠ c) (o : Nat) (k : Value) : At4 b x y z u (w.setCell ⟨c, o, none⟩ k) :=
  ⟨keep_set _ _ _ hc h.1, keep_set _ _ _ hc h.2.1, keep_set _ _ _ hc h.2.2.1, keep_set _ _ _ hc h.2.2.2⟩
theorem At2.set5 {b c : Nat} {x y : Value} {w : World} (h : At2 b x y w) (hc : b ≠ c) (v0 v1 v2 v3 v4 : Value) :
    At2 b x y (((((w.setCell ⟨c, 0, none⟩ v0).setCell ⟨c, 1, none⟩ v1).setCell ⟨c, 2, none⟩ v2).setCell ⟨c, 3, none⟩ v3).setCell ⟨c, 4, none⟩ v4) :=
  ((((h.set hc _ _).set hc _ _).set hc _ _).set hc _ _).set hc _ _
theorem At4.set5 {b c : Nat} {x y z u : Value} {w : World} (h : At4 b x y z u w) (hc : b ≠ c) (v0 v1 v2 v3 v4 : Value) :
    At4 b x y z u (((((w.setCell ⟨c, 0, none⟩ v0).setCell ⟨c, 1, none⟩ v1).setCell ⟨c, 2, none⟩ v2).setCell ⟨c, 3, none⟩ v3).setCell ⟨c, 4, none⟩ v4) :=
  ((((h.set hc _ _).set hc _ _).set hc _ _).set hc _ _).set hc _ _
theorem Room.set5 {b : Nat} {w : World} (h : Room b 5 w) (v0 v1 v2 v3 v4 : Value) :
    Room b 5 (((((w.setCell ⟨b, 0, none⟩ v0).setCell ⟨b, 1, none⟩ v1).setCell ⟨b, 2, none⟩ v2).setCell ⟨b, 3, none⟩ v3).setCell ⟨b, 4, none⟩ v4) :=
  ((((h.set _ _).set _ _).set _ _).set _ _).set _ _
theorem set_same {b o : Nat} {w : World} (h : Room b 5 w) (ho : o < 5) (v : Value) : (w.setCell ⟨b, o, none⟩ v).cell? ⟨b, o, none⟩ = some v := by
  obtain ⟨⟨u, h1⟩, _⟩ := h o ho
  exact World.cell?_setCell_same _ _ _ h1
theorem set_off {b o o' : Nat} {w : World} {x : Value} (v : Value) (hne : o ≠ o') (h : w.cell? ⟨b, o, none⟩ = some x) : (w.setCell ⟨b, o', none⟩ v).cell? ⟨b, o, none⟩ = some x := by
  rw [World.cell?_setCell_other _ _ _ _ (by intro hh; injection hh with _ h3; exact hne h3.symm)]; exact h
theorem at5_set5 {b : Nat} {w : World} (h : Room b 5 w) (v0 v1 v2 v3 v4 : Value) :
    At5 b v0 v1 v2 v3 v4 (((((w.setCell ⟨b, 0, none⟩ v0).setCell ⟨b, 1, none⟩ v1).setCell ⟨b, 2, none⟩ v2).setCell ⟨b, 3, none⟩ v3).setCell ⟨b, 4, none⟩ v4) :=
  ⟨set_off _ (by omega) (set_off _ (by omega) (set_off _ (by omega) (set_off _ (by omega) (set_same h (by omega) _)))),
   set_off _ (by omega) (set_off _ (by omega) (set_off _ (by omega) (set_same (h.set _ _) (by omega) _))),
   set_off _ (by omega) (set_off _ (by omega) (set_same ((h.set _ _).set _ _) (by omega) _)),
   set_off _ (by omega) (set_same (((h.set _ _).set _ _).set _ _) (by omega) _),
   set_same ((((h.set _ _).set _ _).set _ _).set _ _) (by omega) _⟩
theorem bset5 {a b : World} {c : Nat} (h : Below a.heap.size a b) (hc : a.heap.size ≤ c) (v0 v1 v2 v3 v4 : Value) :
    Below a.heap.size a (((((b.setCell ⟨c, 0, none⟩ v0).setCell ⟨c, 1, none⟩ v1).setCell ⟨c, 2, none⟩ v2).setCell ⟨c, 3, none⟩ v3).setCell ⟨c, 4, none⟩ v4) :=
  bset (bset (bset (bset (bset h _ hc _ _) _ hc _ _) _ hc _ _) _ hc _ _) _ hc _ _
theorem fresh_room {N b : Nat} {v0 v1 v2 v3 v4 : Value} {w : World} (h : Fresh N #[v0, v1, v2, v3, v4] b w) : Room b 5 w := fun o ho => by
  refine ⟨?_, h.thawed o⟩
  match o, ho with
  | 0, _ => exact ⟨_, h.cell 0 _ rfl⟩
  | 1, _ => exact ⟨_, h.cell 1 _ rfl⟩
  | 2, _ => exact ⟨_, h.cell 2 _ rfl⟩
  | 3, _ => exact ⟨_, h.cell 3 _ rfl⟩
  | 4, _ => exact ⟨_, h.cell 4 _ rfl⟩
theorem stable_at2 (b : Nat) (x y : Value) : Stable (At2 b x y) := fun _ _ h k => h.below k
theorem stable_at4 (b : Nat) (x y z u : Value) : Stable (At4 b x y z u) := fun _ _ h k => h.below k
theorem at5_set3 {b : Nat} {x y z u v : Value} {w : World} (h : At5 b x y z u v w) (k : Value) : At5 b x y z k v (w.setCell ⟨b, 3, none⟩ k) :=
  ⟨set_off _ (by omega) h.1, set_off _ (by omega) h.2.1, set_off _ (by omega) h.2.2.1, World.cell?_setCell_same _ _ _ h.2.2.2.1, set_off _ (by omega) h.2.2.2.2⟩

set_option maxRecDepth 100000 in
set_option maxHeartbeats 4000000 in
theorem fin_big {e f P Q b K X S D R : Int} {n : Bool} (W : World) (hs : Sz e f P Q b) (g0 : 0 ≤ f) (g1 : f ≤ 63)
    (kp : IntKind.u64.wrap (P - 1) = P - 1) (ka : bits .and .u64 S (P - 1) = R) (kd : S / 2 ^ f.toNat = D) (d0 : (D == 0) = false) (d1 : (D == 1) = false) :
    Calls Tryz.prog 283 #[.agg #[.int .i64 e, .int .i64 f], .agg #[.bool n, .int .i64 K, .int .i64 X, .int .u64 S]] W fun r W' => r = .returned (.tuple #[.int .u64 0, .int .i64 2]) ∧ Below W.heap.size W W' := by
  go_enter Tryz.func283, Tryz.ntmps283
  go_wp2_with fail
  have hz0 : W.heap.size ≠ W.heap.size + 1 := by omega
  refine wp_region_held_drew (S := fun w' => (w'.cell? ⟨W.heap.size, 0, none⟩ = some (.int .i64 e) ∧ w'.cell? ⟨W.heap.size, 1, none⟩ = some (.int .i64 f)) ∧ (w'.cell? ⟨W.heap.size + 1, 0, none⟩ = some (.bool n) ∧ w'.cell? ⟨W.heap.size + 1, 1, none⟩ = some (.int .i64 K) ∧ w'.cell? ⟨W.heap.size + 1, 2, none⟩ = some (.int .i64 X) ∧ w'.cell? ⟨W.heap.size + 1, 3, none⟩ = some (.int .u64 S))) (by kernel_rfl) ?_ (fun hHeld => ?_)
  · (try dsimp only)
    simp [go_sem]
  refine wo_start (N := W.heap.size + 1 + 1) (i1 := 10) (d1 := 6) (v1 := #[.int .i64 0, .int .i64 0, .bool false, .int .u64 0, .int .u64 0]) (t1 := 82) (f := 1) (n := 10) (T := fun w' => Below W.heap.size W w') (by kernel_rfl) (by kernel_rfl) (fun _ _ _ _ _ h => h) ((stable_at2 _ _ _).and (stable_at4 _ _ _ _ _)) ?_ (stable_below W) hHeld ((below2 W _ _).drew) (by simp) ?_
  · intro a w K h
    unfold wpOp
    go_simp
    exact Or.inl h
  clear hHeld
  refine woA 0 7 ?_
  refine woA 1 8 ?_
  refine woA 2 9 ?_
  refine woA 3 10 ?_
  refine woA 4 11 ?_
  refine woA 5 12 ?_
  refine wo_call (c := 6) (o := { dst := some 13, op := _, type := _, pos := _, after := _, guard := _ }) rfl (by kernel_rfl) (by kernel_rfl) (fun u hSu hTu Kk hKk => ?_)
  go_simp
  refine (one_any hs _).mono ?_
  rintro _ wn ⟨rfl, hbl⟩
  have HTn := hide (bthen hTu hbl)
  clear hTu hSu
  (try go_wp2_with fail)
  refine hKk.out _ _ (fun w' => Below W.heap.size W w') (by assumption) (stable_below W) (unhide HTn) ?_
  clear hKk Kk HTn
  (try simp only [Act.put, List.setIfInBounds_toArray, List.set_cons_zero, List.set_cons_succ])
  refine woA 7 14 ?_
  refine woA 8 15 ?_
  refine woA 9 16 ?_
  refine wo_fin (by kernel_rfl) (fun wf b1 hSu hTu k1 => ?_)
  (try simp only [Act.put, List.setIfInBounds_toArray, List.set_cons_zero, List.set_cons_succ])
  unfold ptr
  have zb := k1.base
  have HRm := hide (fresh_room k1)
  obtain ⟨⟨v0, c0⟩, f0⟩ := (unhide HRm) 0 (by omega)
  obtain ⟨⟨v1, c1⟩, f1⟩ := (unhide HRm) 1 (by omega)
  obtain ⟨⟨v2, c2⟩, f2⟩ := (unhide HRm) 2 (by omega)
  obtain ⟨⟨v3, c3⟩, f3⟩ := (unhide HRm) 3 (by omega)
  obtain ⟨⟨v4, c4⟩, f4⟩ := (unhide HRm) 4 (by omega)
  refine anyH_at #[true, true, true, true, true, true, true, true, true, true, true, false] (by kernel_rfl) ?_
  refine wpAnyH_ready (rs := [11]) (by kernel_rfl) (by simp) ?_
  refine AllReadyH.cons (o := { dst := none, op := _, type := _, pos := _, after := _, guard := _ }) rfl (fun Kk hKk => ?_) AllReadyH.nil
  go_simp
  refine hKk.out _ _ ?_ (fun hHeld => ?_)
  · (try dsimp only)
    exact ⟨At2.set5 hSu.1 (by omega) _ _ _ _ _, At4.set5 hSu.2 (by omega) _ _ _ _ _⟩
  clear hKk Kk
  refine wpAnyH_done (by kernel_rfl) ?_ _
  have HA5 := hide (at5_set5 (unhide HRm) (.int .i64 e) (.int .i64 f) (.bool n) (.int .u64 0) (.int .u64 R))
  have HB := hide (bset5 (c := b1) hTu (by omega) (.int .i64 e) (.int .i64 f) (.bool n) (.int .u64 0) (.int .u64 R))
  have HRm := hide ((unhide HRm).set5 (.int .i64 e) (.int .i64 f) (.bool n) (.int .u64 0) (.int .u64 R))
  have HS := hide hHeld
  clear hHeld hSu hTu k1 c0 c1 c2 c3 c4 f0 f1 f2 f3 f4
  generalize ((((wf.setCell ⟨b1, 0, none⟩ (.int .i64 e)).setCell ⟨b1, 1, none⟩ (.int .i64 f)).setCell ⟨b1, 2, none⟩ (.bool n)).setCell ⟨b1, 3, none⟩ (.int .u64 0)).setCell ⟨b1, 4, none⟩ (.int .u64 R) = wx at *
  obtain ⟨⟨s0, s1⟩, p0, p1, p2, p3⟩ := unhide HS
  go_wp2_with fail
  clear s0 s1 p0 p1 p2 p3
  go_ret2
  exact ⟨rfl, unhide HB⟩

set_option maxRecDepth 100000 in
set_option maxHeartbeats 4000000 in
theorem fin_z {e f P Q b K X S D R : Int} {n : Bool} (W : World) (hs : Sz e f P Q b) (g0 : 0 ≤ f) (g1 : f ≤ 63)
    (kp : IntKind.u64.wrap (P - 1) = P - 1) (ka : bits .and .u64 S (P - 1) = R) (kd : S / 2 ^ f.toNat = D) (d0 : (D == 0) = true) (z0 : (S == 0) = true) :
    Calls Tryz.prog 283 #[.agg #[.int .i64 e, .int .i64 f], .agg #[.bool n, .int .i64 K, .int .i64 X, .int .u64 S]] W fun r W' => r = .returned (.tuple #[.int .u64 0, .int .i64 2]) ∧ Below W.heap.size W W' := by
  go_enter Tryz.func283, Tryz.ntmps283
  go_wp2_with fail
  have hz0 : W.heap.size ≠ W.heap.size + 1 := by omega
  refine wp_region_held_drew (S := fun w' => (w'.cell? ⟨W.heap.size, 0, none⟩ = some (.int .i64 e) ∧ w'.cell? ⟨W.heap.size, 1, none⟩ = some (.int .i64 f)) ∧ (w'.cell? ⟨W.heap.size + 1, 0, none⟩ = some (.bool n) ∧ w'.cell? ⟨W.heap.size + 1, 1, none⟩ = some (.int .i64 K) ∧ w'.cell? ⟨W.heap.size + 1, 2, none⟩ = some (.int .i64 X) ∧ w'.cell? ⟨W.heap.size + 1, 3, none⟩ = some (.int .u64 S))) (by kernel_rfl) ?_ (fun hHeld => ?_)
  · (try dsimp only)
    simp [go_sem]
  refine wo_start (N := W.heap.size + 1 + 1) (i1 := 10) (d1 := 6) (v1 := #[.int .i64 0, .int .i64 0, .bool false, .int .u64 0, .int .u64 0]) (t1 := 82) (f := 1) (n := 10) (T := fun w' => Below W.heap.size W w') (by kernel_rfl) (by kernel_rfl) (fun _ _ _ _ _ h => h) ((stable_at2 _ _ _).and (stable_at4 _ _ _ _ _)) ?_ (stable_below W) hHeld ((below2 W _ _).drew) (by simp) ?_
  · intro a w K h
    unfold wpOp
    go_simp
    exact Or.inl h
  clear hHeld
  refine woA 0 7 ?_
  refine woA 1 8 ?_
  refine woA 2 9 ?_
  refine woA 3 10 ?_
  refine woA 4 11 ?_
  refine woA 5 12 ?_
  refine wo_call (c := 6) (o := { dst := some 13, op := _, type := _, pos := _, after := _, guard := _ }) rfl (by kernel_rfl) (by kernel_rfl) (fun u hSu hTu Kk hKk => ?_)
  go_simp
  refine (one_any hs _).mono ?_
  rintro _ wn ⟨rfl, hbl⟩
  have HTn := hide (bthen hTu hbl)
  clear hTu hSu
  (try go_wp2_with fail)
  refine hKk.out _ _ (fun w' => Below W.heap.size W w') (by assumption) (stable_below W) (unhide HTn) ?_
  clear hKk Kk HTn
  (try simp only [Act.put, List.setIfInBounds_toArray, List.set_cons_zero, List.set_cons_succ])
  refine woA 7 14 ?_
  refine woA 8 15 ?_
  refine woA 9 16 ?_
  refine wo_fin (by kernel_rfl) (fun wf b1 hSu hTu k1 => ?_)
  (try simp only [Act.put, List.setIfInBounds_toArray, List.set_cons_zero, List.set_cons_succ])
  unfold ptr
  have zb := k1.base
  have HRm := hide (fresh_room k1)
  obtain ⟨⟨v0, c0⟩, f0⟩ := (unhide HRm) 0 (by omega)
  obtain ⟨⟨v1, c1⟩, f1⟩ := (unhide HRm) 1 (by omega)
  obtain ⟨⟨v2, c2⟩, f2⟩ := (unhide HRm) 2 (by omega)
  obtain ⟨⟨v3, c3⟩, f3⟩ := (unhide HRm) 3 (by omega)
  obtain ⟨⟨v4, c4⟩, f4⟩ := (unhide HRm) 4 (by omega)
  refine anyH_at #[true, true, true, true, true, true, true, true, true, true, true, false] (by kernel_rfl) ?_
  refine wpAnyH_ready (rs := [11]) (by kernel_rfl) (by simp) ?_
  refine AllReadyH.cons (o := { dst := none, op := _, type := _, pos := _, after := _, guard := _ }) rfl (fun Kk hKk => ?_) AllReadyH.nil
  go_simp
  refine hKk.out _ _ ?_ (fun hHeld => ?_)
  · (try dsimp only)
    exact ⟨At2.set5 hSu.1 (by omega) _ _ _ _ _, At4.set5 hSu.2 (by omega) _ _ _ _ _⟩
  clear hKk Kk
  refine wpAnyH_done (by kernel_rfl) ?_ _
  have HA5 := hide (at5_set5 (unhide HRm) (.int .i64 e) (.int .i64 f) (.bool n) (.int .u64 0) (.int .u64 R))
  have HB := hide (bset5 (c := b1) hTu (by omega) (.int .i64 e) (.int .i64 f) (.bool n) (.int .u64 0) (.int .u64 R))
  have HRm := hide ((unhide HRm).set5 (.int .i64 e) (.int .i64 f) (.bool n) (.int .u64 0) (.int .u64 R))
  have HS := hide hHeld
  clear hHeld hSu hTu k1 c0 c1 c2 c3 c4 f0 f1 f2 f3 f4
  generalize ((((wf.setCell ⟨b1, 0, none⟩ (.int .i64 e)).setCell ⟨b1, 1, none⟩ (.int .i64 f)).setCell ⟨b1, 2, none⟩ (.bool n)).setCell ⟨b1, 3, none⟩ (.int .u64 0)).setCell ⟨b1, 4, none⟩ (.int .u64 R) = wx at *
  obtain ⟨⟨s0, s1⟩, p0, p1, p2, p3⟩ := unhide HS
  go_wp2_with fail
  clear s0 s1 p0 p1 p2 p3
  have HB := hide (unhide HB).drew
  have HA5 := hide ((unhide HA5).below ((Below.refl _ _).drew))
  have HRm := hide (unhide HRm).drew
  have HS := hide (((stable_at2 _ _ _).and (stable_at4 _ _ _ _ _)) _ _ (unhide HS) ((Below.refl _ _).drew))
  refine wp_region_held_drew (S := fun w' => (w'.cell? ⟨W.heap.size, 0, none⟩ = some (.int .i64 e) ∧ w'.cell? ⟨W.heap.size, 1, none⟩ = some (.int .i64 f)) ∧ (w'.cell? ⟨W.heap.size + 1, 0, none⟩ = some (.bool n) ∧ w'.cell? ⟨W.heap.size + 1, 1, none⟩ = some (.int .i64 K) ∧ w'.cell? ⟨W.heap.size + 1, 2, none⟩ = some (.int .i64 X) ∧ w'.cell? ⟨W.heap.size + 1, 3, none⟩ = some (.int .u64 S))) (by kernel_rfl) ?_ (fun hHeld => ?_)
  · (try dsimp only)
    exact unhide HS
  refine lst0 10 (by kernel_rfl) ?_
  refine tkA 0 24 1 ?_
  refine tkA 1 25 3 ?_
  refine tkA 2 26 7 ?_
  refine tkA 3 27 15 ?_
  refine tkU 4 28 31 ?_
  refine tkU 5 29 63 ?_
  refine tkU 6 30 127 ?_
  refine rdA 7 255 (fun Kk hKk => ?_)
  go_simp
  refine hKk.out _ _ ?_ (fun hHeld => ?_)
  · (try dsimp only)
    exact hHeld
  clear hKk Kk
  (try simp only [List.setIfInBounds_toArray, List.set_cons_zero, List.set_cons_succ])
  refine tkU 8 32 511 ?_
  refine tkA 9 33 1023 ?_
  refine wpAnyH_done (by kernel_rfl) ?_ _
  clear hHeld
  go_wp2_with fail
  go_ret2
  exact ⟨rfl, unhide HB⟩

set_option maxRecDepth 100000 in
set_option maxHeartbeats 4000000 in
theorem fin_x {e f P Q b K X S D R : Int} {n : Bool} (W : World) (hs : Sz e f P Q b) (g0 : 0 ≤ f) (g1 : f ≤ 63)
    (kp : IntKind.u64.wrap (P - 1) = P - 1) (ka : bits .and .u64 S (P - 1) = R) (kd : S / 2 ^ f.toNat = D) (d0 : (D == 0) = true) (z0 : (S == 0) = false) (x0 : (X != 1 - b - f) = true) :
    Calls Tryz.prog 283 #[.agg #[.int .i64 e, .int .i64 f], .agg #[.bool n, .int .i64 K, .int .i64 X, .int .u64 S]] W fun r W' => r = .returned (.tuple #[.int .u64 0, .int .i64 2]) ∧ Below W.heap.size W W' := by
  go_enter Tryz.func283, Tryz.ntmps283
  go_wp2_with fail
  have hz0 : W.heap.size ≠ W.heap.size + 1 := by omega
  refine wp_region_held_drew (S := fun w' => (w'.cell? ⟨W.heap.size, 0, none⟩ = some (.int .i64 e) ∧ w'.cell? ⟨W.heap.size, 1, none⟩ = some (.int .i64 f)) ∧ (w'.cell? ⟨W.heap.size + 1, 0, none⟩ = some (.bool n) ∧ w'.cell? ⟨W.heap.size + 1, 1, none⟩ = some (.int .i64 K) ∧ w'.cell? ⟨W.heap.size + 1, 2, none⟩ = some (.int .i64 X) ∧ w'.cell? ⟨W.heap.size + 1, 3, none⟩ = some (.int .u64 S))) (by kernel_rfl) ?_ (fun hHeld => ?_)
  · (try dsimp only)
    simp [go_sem]
  refine wo_start (N := W.heap.size + 1 + 1) (i1 := 10) (d1 := 6) (v1 := #[.int .i64 0, .int .i64 0, .bool false, .int .u64 0, .int .u64 0]) (t1 := 82) (f := 1) (n := 10) (T := fun w' => Below W.heap.size W w') (by kernel_rfl) (by kernel_rfl) (fun _ _ _ _ _ h => h) ((stable_at2 _ _ _).and (stable_at4 _ _ _ _ _)) ?_ (stable_below W) hHeld ((below2 W _ _).drew) (by simp) ?_
  · intro a w K h
    unfold wpOp
    go_simp
    exact Or.inl h
  clear hHeld
  refine woA 0 7 ?_
  refine woA 1 8 ?_
  refine woA 2 9 ?_
  refine woA 3 10 ?_
  refine woA 4 11 ?_
  refine woA 5 12 ?_
  refine wo_call (c := 6) (o := { dst := some 13, op := _, type := _, pos := _, after := _, guard := _ }) rfl (by kernel_rfl) (by kernel_rfl) (fun u hSu hTu Kk hKk => ?_)
  go_simp
  refine (one_any hs _).mono ?_
  rintro _ wn ⟨rfl, hbl⟩
  have HTn := hide (bthen hTu hbl)
  clear hTu hSu
  (try go_wp2_with fail)
  refine hKk.out _ _ (fun w' => Below W.heap.size W w') (by assumption) (stable_below W) (unhide HTn) ?_
  clear hKk Kk HTn
  (try simp only [Act.put, List.setIfInBounds_toArray, List.set_cons_zero, List.set_cons_succ])
  refine woA 7 14 ?_
  refine woA 8 15 ?_
  refine woA 9 16 ?_
  refine wo_fin (by kernel_rfl) (fun wf b1 hSu hTu k1 => ?_)
  (try simp only [Act.put, List.setIfInBounds_toArray, List.set_cons_zero, List.set_cons_succ])
  unfold ptr
  have zb := k1.base
  have HRm := hide (fresh_room k1)
  obtain ⟨⟨v0, c0⟩, f0⟩ := (unhide HRm) 0 (by omega)
  obtain ⟨⟨v1, c1⟩, f1⟩ := (unhide HRm) 1 (by omega)
  obtain ⟨⟨v2, c2⟩, f2⟩ := (unhide HRm) 2 (by omega)
  obtain ⟨⟨v3, c3⟩, f3⟩ := (unhide HRm) 3 (by omega)
  obtain ⟨⟨v4, c4⟩, f4⟩ := (unhide HRm) 4 (by omega)
  refine anyH_at #[true, true, true, true, true, true, true, true, true, true, true, false] (by kernel_rfl) ?_
  refine wpAnyH_ready (rs := [11]) (by kernel_rfl) (by simp) ?_
  refine AllReadyH.cons (o := { dst := none, op := _, type := _, pos := _, after := _, guard := _ }) rfl (fun Kk hKk => ?_) AllReadyH.nil
  go_simp
  refine hKk.out _ _ ?_ (fun hHeld => ?_)
  · (try dsimp only)
    exact ⟨At2.set5 hSu.1 (by omega) _ _ _ _ _, At4.set5 hSu.2 (by omega) _ _ _ _ _⟩
  clear hKk Kk
  refine wpAnyH_done (by kernel_rfl) ?_ _
  have HA5 := hide (at5_set5 (unhide HRm) (.int .i64 e) (.int .i64 f) (.bool n) (.int .u64 0) (.int .u64 R))
  have HB := hide (bset5 (c := b1) hTu (by omega) (.int .i64 e) (.int .i64 f) (.bool n) (.int .u64 0) (.int .u64 R))
  have HRm := hide ((unhide HRm).set5 (.int .i64 e) (.int .i64 f) (.bool n) (.int .u64 0) (.int .u64 R))
  have HS := hide hHeld
  clear hHeld hSu hTu k1 c0 c1 c2 c3 c4 f0 f1 f2 f3 f4
  generalize ((((wf.setCell ⟨b1, 0, none⟩ (.int .i64 e)).setCell ⟨b1, 1, none⟩ (.int .i64 f)).setCell ⟨b1, 2, none⟩ (.bool n)).setCell ⟨b1, 3, none⟩ (.int .u64 0)).setCell ⟨b1, 4, none⟩ (.int .u64 R) = wx at *
  obtain ⟨⟨s0, s1⟩, p0, p1, p2, p3⟩ := unhide HS
  go_wp2_with fail
  clear s0 s1 p0 p1 p2 p3
  have HB := hide (unhide HB).drew
  have HA5 := hide ((unhide HA5).below ((Below.refl _ _).drew))
  have HRm := hide (unhide HRm).drew
  have HS := hide (((stable_at2 _ _ _).and (stable_at4 _ _ _ _ _)) _ _ (unhide HS) ((Below.refl _ _).drew))
  refine wp_region_held_drew (S := fun w' => (w'.cell? ⟨W.heap.size, 0, none⟩ = some (.int .i64 e) ∧ w'.cell? ⟨W.heap.size, 1, none⟩ = some (.int .i64 f)) ∧ (w'.cell? ⟨W.heap.size + 1, 0, none⟩ = some (.bool n) ∧ w'.cell? ⟨W.heap.size + 1, 1, none⟩ = some (.int .i64 K) ∧ w'.cell? ⟨W.heap.size + 1, 2, none⟩ = some (.int .i64 X) ∧ w'.cell? ⟨W.heap.size + 1, 3, none⟩ = some (.int .u64 S))) (by kernel_rfl) ?_ (fun hHeld => ?_)
  · (try dsimp only)
    exact unhide HS
  refine lst0 10 (by kernel_rfl) ?_
  refine tkA 0 24 1 ?_
  refine tkA 1 25 3 ?_
  refine tkA 2 26 7 ?_
  refine tkA 3 27 15 ?_
  refine tkA 4 28 31 ?_
  refine tkA 5 29 63 ?_
  refine tkA 6 30 127 ?_
  refine rdA 7 255 (fun Kk hKk => ?_)
  go_simp
  refine (least_any hs _).mono ?_
  rintro _ wl ⟨rfl, hbl⟩
  have HB := hide (bthen (unhide HB) hbl)
  have HA5 := hide ((unhide HA5).below hbl)
  have HRm := hide ((unhide HRm).below hbl)
  have HS := hide (((stable_at2 _ _ _).and (stable_at4 _ _ _ _ _)) _ _ (unhide HS) hbl)
  clear hbl
  (try go_wp2_with fail)
  refine hKk.out _ _ ?_ (fun hHeld => ?_)
  · (try dsimp only)
    exact unhide HS
  clear hKk Kk
  (try simp only [List.setIfInBounds_toArray, List.set_cons_zero, List.set_cons_succ])
  refine tkA 8 32 511 ?_
  refine tkA 9 33 1023 ?_
  refine wpAnyH_done (by kernel_rfl) ?_ _
  clear hHeld
  go_wp2_with fail
  go_ret2
  exact ⟨rfl, unhide HB⟩

set_option maxRecDepth 100000 in
set_option maxHeartbeats 4000000 in
theorem fin_sub {e f P Q b K X S D R : Int} {n : Bool} (W : World) (hs : Sz e f P Q b) (g0 : 0 ≤ f) (g1 : f ≤ 63)
    (kp : IntKind.u64.wrap (P - 1) = P - 1) (ka : bits .and .u64 S (P - 1) = R) (kd : S / 2 ^ f.toNat = D) (d0 : (D == 0) = true) (z0 : (S == 0) = false) (x0 : (X != 1 - b - f) = false) {V : Int} (HC : Ct 54 #[.agg #[.int .i64 e, .int .i64 f, .bool n, .int .u64 0, .int .u64 R]] (.int .u64 V)) :
    Calls Tryz.prog 283 #[.agg #[.int .i64 e, .int .i64 f], .agg #[.bool n, .int .i64 K, .int .i64 X, .int .u64 S]] W fun r W' => r = .returned (.tuple #[.int .u64 V, .int .i64 0]) ∧ Below W.heap.size W W' := by
  go_enter Tryz.func283, Tryz.ntmps283
  go_wp2_with fail
  have hz0 : W.heap.size ≠ W.heap.size + 1 := by omega
  refine wp_region_held_drew (S := fun w' => (w'.cell? ⟨W.heap.size, 0, none⟩ = some (.int .i64 e) ∧ w'.cell? ⟨W.heap.size, 1, none⟩ = some (.int .i64 f)) ∧ (w'.cell? ⟨W.heap.size + 1, 0, none⟩ = some (.bool n) ∧ w'.cell? ⟨W.heap.size + 1, 1, none⟩ = some (.int .i64 K) ∧ w'.cell? ⟨W.heap.size + 1, 2, none⟩ = some (.int .i64 X) ∧ w'.cell? ⟨W.heap.size + 1, 3, none⟩ = some (.int .u64 S))) (by kernel_rfl) ?_ (fun hHeld => ?_)
  · (try dsimp only)
    simp [go_sem]
  refine wo_start (N := W.heap.size + 1 + 1) (i1 := 10) (d1 := 6) (v1 := #[.int .i64 0, .int .i64 0, .bool false, .int .u64 0, .int .u64 0]) (t1 := 82) (f := 1) (n := 10) (T := fun w' => Below W.heap.size W w') (by kernel_rfl) (by kernel_rfl) (fun _ _ _ _ _ h => h) ((stable_at2 _ _ _).and (stable_at4 _ _ _ _ _)) ?_ (stable_below W) hHeld ((below2 W _ _).drew) (by simp) ?_
  · intro a w K h
    unfold wpOp
    go_simp
    exact Or.inl h
  clear hHeld
  refine woA 0 7 ?_
  refine woA 1 8 ?_
  refine woA 2 9 ?_
  refine woA 3 10 ?_
  refine woA 4 11 ?_
  refine woA 5 12 ?_
  refine wo_call (c := 6) (o := { dst := some 13, op := _, type := _, pos := _, after := _, guard := _ }) rfl (by kernel_rfl) (by kernel_rfl) (fun u hSu hTu Kk hKk => ?_)
  go_simp
  refine (one_any hs _).mono ?_
  rintro _ wn ⟨rfl, hbl⟩
  have HTn := hide (bthen hTu hbl)
  clear hTu hSu
  (try go_wp2_with fail)
  refine hKk.out _ _ (fun w' => Below W.heap.size W w') (by assumption) (stable_below W) (unhide HTn) ?_
  clear hKk Kk HTn
  (try simp only [Act.put, List.setIfInBounds_toArray, List.set_cons_zero, List.set_cons_succ])
  refine woA 7 14 ?_
  refine woA 8 15 ?_
  refine woA 9 16 ?_
  refine wo_fin (by kernel_rfl) (fun wf b1 hSu hTu k1 => ?_)
  (try simp only [Act.put, List.setIfInBounds_toArray, List.set_cons_zero, List.set_cons_succ])
  unfold ptr
  have zb := k1.base
  have HRm := hide (fresh_room k1)
  obtain ⟨⟨v0, c0⟩, f0⟩ := (unhide HRm) 0 (by omega)
  obtain ⟨⟨v1, c1⟩, f1⟩ := (unhide HRm) 1 (by omega)
  obtain ⟨⟨v2, c2⟩, f2⟩ := (unhide HRm) 2 (by omega)
  obtain ⟨⟨v3, c3⟩, f3⟩ := (unhide HRm) 3 (by omega)
  obtain ⟨⟨v4, c4⟩, f4⟩ := (unhide HRm) 4 (by omega)
  refine anyH_at #[true, true, true, true, true, true, true, true, true, true, true, false] (by kernel_rfl) ?_
  refine wpAnyH_ready (rs := [11]) (by kernel_rfl) (by simp) ?_
  refine AllReadyH.cons (o := { dst := none, op := _, type := _, pos := _, after := _, guard := _ }) rfl (fun Kk hKk => ?_) AllReadyH.nil
  go_simp
  refine hKk.out _ _ ?_ (fun hHeld => ?_)
  · (try dsimp only)
    exact ⟨At2.set5 hSu.1 (by omega) _ _ _ _ _, At4.set5 hSu.2 (by omega) _ _ _ _ _⟩
  clear hKk Kk
  refine wpAnyH_done (by kernel_rfl) ?_ _
  have HA5 := hide (at5_set5 (unhide HRm) (.int .i64 e) (.int .i64 f) (.bool n) (.int .u64 0) (.int .u64 R))
  have HB := hide (bset5 (c := b1) hTu (by omega) (.int .i64 e) (.int .i64 f) (.bool n) (.int .u64 0) (.int .u64 R))
  have HRm := hide ((unhide HRm).set5 (.int .i64 e) (.int .i64 f) (.bool n) (.int .u64 0) (.int .u64 R))
  have HS := hide hHeld
  clear hHeld hSu hTu k1 c0 c1 c2 c3 c4 f0 f1 f2 f3 f4
  generalize ((((wf.setCell ⟨b1, 0, none⟩ (.int .i64 e)).setCell ⟨b1, 1, none⟩ (.int .i64 f)).setCell ⟨b1, 2, none⟩ (.bool n)).setCell ⟨b1, 3, none⟩ (.int .u64 0)).setCell ⟨b1, 4, none⟩ (.int .u64 R) = wx at *
  obtain ⟨⟨s0, s1⟩, p0, p1, p2, p3⟩ := unhide HS
  go_wp2_with fail
  clear s0 s1 p0 p1 p2 p3
  have HB := hide (unhide HB).drew
  have HA5 := hide ((unhide HA5).below ((Below.refl _ _).drew))
  have HRm := hide (unhide HRm).drew
  have HS := hide (((stable_at2 _ _ _).and (stable_at4 _ _ _ _ _)) _ _ (unhide HS) ((Below.refl _ _).drew))
  refine wp_region_held_drew (S := fun w' => (w'.cell? ⟨W.heap.size, 0, none⟩ = some (.int .i64 e) ∧ w'.cell? ⟨W.heap.size, 1, none⟩ = some (.int .i64 f)) ∧ (w'.cell? ⟨W.heap.size + 1, 0, none⟩ = some (.bool n) ∧ w'.cell? ⟨W.heap.size + 1, 1, none⟩ = some (.int .i64 K) ∧ w'.cell? ⟨W.heap.size + 1, 2, none⟩ = some (.int .i64 X) ∧ w'.cell? ⟨W.heap.size + 1, 3, none⟩ = some (.int .u64 S))) (by kernel_rfl) ?_ (fun hHeld => ?_)
  · (try dsimp only)
    exact unhide HS
  refine lst0 10 (by kernel_rfl) ?_
  refine tkA 0 24 1 ?_
  refine tkA 1 25 3 ?_
  refine tkA 2 26 7 ?_
  refine tkA 3 27 15 ?_
  refine tkA 4 28 31 ?_
  refine tkA 5 29 63 ?_
  refine tkA 6 30 127 ?_
  refine rdA 7 255 (fun Kk hKk => ?_)
  go_simp
  refine (least_any hs _).mono ?_
  rintro _ wl ⟨rfl, hbl⟩
  have HB := hide (bthen (unhide HB) hbl)
  have HA5 := hide ((unhide HA5).below hbl)
  have HRm := hide ((unhide HRm).below hbl)
  have HS := hide (((stable_at2 _ _ _).and (stable_at4 _ _ _ _ _)) _ _ (unhide HS) hbl)
  clear hbl
  (try go_wp2_with fail)
  refine hKk.out _ _ ?_ (fun hHeld => ?_)
  · (try dsimp only)
    exact unhide HS
  clear hKk Kk
  (try simp only [List.setIfInBounds_toArray, List.set_cons_zero, List.set_cons_succ])
  refine tkA 8 32 511 ?_
  refine tkA 9 33 1023 ?_
  refine wpAnyH_done (by kernel_rfl) ?_ _
  clear hHeld
  obtain ⟨a0, a1, a2, a3, a4⟩ := unhide HA5
  go_wp2_with fail
  refine (unhide HC _).mono ?_
  rintro _ wz ⟨rfl, hbl⟩
  have HB := hide (bthen (unhide HB) hbl)
  go_wp2_with fail
  go_ret2
  exact ⟨rfl, unhide HB⟩

set_option maxRecDepth 100000 in
set_option maxHeartbeats 4000000 in
theorem fin_lo {e f P Q b K X S D R : Int} {n : Bool} (W : World) (hs : Sz e f P Q b) (g0 : 0 ≤ f) (g1 : f ≤ 63)
    (kp : IntKind.u64.wrap (P - 1) = P - 1) (ka : bits .and .u64 S (P - 1) = R) (kd : S / 2 ^ f.toNat = D) (d0 : (D == 0) = false) (d1 : (D == 1) = true) (x0 : decide (X < 1 - b - f) = true) :
    Calls Tryz.prog 283 #[.agg #[.int .i64 e, .int .i64 f], .agg #[.bool n, .int .i64 K, .int .i64 X, .int .u64 S]] W fun r W' => r = .returned (.tuple #[.int .u64 0, .int .i64 2]) ∧ Below W.heap.size W W' := by
  go_enter Tryz.func283, Tryz.ntmps283
  go_wp2_with fail
  have hz0 : W.heap.size ≠ W.heap.size + 1 := by omega
  refine wp_region_held_drew (S := fun w' => (w'.cell? ⟨W.heap.size, 0, none⟩ = some (.int .i64 e) ∧ w'.cell? ⟨W.heap.size, 1, none⟩ = some (.int .i64 f)) ∧ (w'.cell? ⟨W.heap.size + 1, 0, none⟩ = some (.bool n) ∧ w'.cell? ⟨W.heap.size + 1, 1, none⟩ = some (.int .i64 K) ∧ w'.cell? ⟨W.heap.size + 1, 2, none⟩ = some (.int .i64 X) ∧ w'.cell? ⟨W.heap.size + 1, 3, none⟩ = some (.int .u64 S))) (by kernel_rfl) ?_ (fun hHeld => ?_)
  · (try dsimp only)
    simp [go_sem]
  refine wo_start (N := W.heap.size + 1 + 1) (i1 := 10) (d1 := 6) (v1 := #[.int .i64 0, .int .i64 0, .bool false, .int .u64 0, .int .u64 0]) (t1 := 82) (f := 1) (n := 10) (T := fun w' => Below W.heap.size W w') (by kernel_rfl) (by kernel_rfl) (fun _ _ _ _ _ h => h) ((stable_at2 _ _ _).and (stable_at4 _ _ _ _ _)) ?_ (stable_below W) hHeld ((below2 W _ _).drew) (by simp) ?_
  · intro a w K h
    unfold wpOp
    go_simp
    exact Or.inl h
  clear hHeld
  refine woA 0 7 ?_
  refine woA 1 8 ?_
  refine woA 2 9 ?_
  refine woA 3 10 ?_
  refine woA 4 11 ?_
  refine woA 5 12 ?_
  refine wo_call (c := 6) (o := { dst := some 13, op := _, type := _, pos := _, after := _, guard := _ }) rfl (by kernel_rfl) (by kernel_rfl) (fun u hSu hTu Kk hKk => ?_)
  go_simp
  refine (one_any hs _).mono ?_
  rintro _ wn ⟨rfl, hbl⟩
  have HTn := hide (bthen hTu hbl)
  clear hTu hSu
  (try go_wp2_with fail)
  refine hKk.out _ _ (fun w' => Below W.heap.size W w') (by assumption) (stable_below W) (unhide HTn) ?_
  clear hKk Kk HTn
  (try simp only [Act.put, List.setIfInBounds_toArray, List.set_cons_zero, List.set_cons_succ])
  refine woA 7 14 ?_
  refine woA 8 15 ?_
  refine woA 9 16 ?_
  refine wo_fin (by kernel_rfl) (fun wf b1 hSu hTu k1 => ?_)
  (try simp only [Act.put, List.setIfInBounds_toArray, List.set_cons_zero, List.set_cons_succ])
  unfold ptr
  have zb := k1.base
  have HRm := hide (fresh_room k1)
  obtain ⟨⟨v0, c0⟩, f0⟩ := (unhide HRm) 0 (by omega)
  obtain ⟨⟨v1, c1⟩, f1⟩ := (unhide HRm) 1 (by omega)
  obtain ⟨⟨v2, c2⟩, f2⟩ := (unhide HRm) 2 (by omega)
  obtain ⟨⟨v3, c3⟩, f3⟩ := (unhide HRm) 3 (by omega)
  obtain ⟨⟨v4, c4⟩, f4⟩ := (unhide HRm) 4 (by omega)
  refine anyH_at #[true, true, true, true, true, true, true, true, true, true, true, false] (by kernel_rfl) ?_
  refine wpAnyH_ready (rs := [11]) (by kernel_rfl) (by simp) ?_
  refine AllReadyH.cons (o := { dst := none, op := _, type := _, pos := _, after := _, guard := _ }) rfl (fun Kk hKk => ?_) AllReadyH.nil
  go_simp
  refine hKk.out _ _ ?_ (fun hHeld => ?_)
  · (try dsimp only)
    exact ⟨At2.set5 hSu.1 (by omega) _ _ _ _ _, At4.set5 hSu.2 (by omega) _ _ _ _ _⟩
  clear hKk Kk
  refine wpAnyH_done (by kernel_rfl) ?_ _
  have HA5 := hide (at5_set5 (unhide HRm) (.int .i64 e) (.int .i64 f) (.bool n) (.int .u64 0) (.int .u64 R))
  have HB := hide (bset5 (c := b1) hTu (by omega) (.int .i64 e) (.int .i64 f) (.bool n) (.int .u64 0) (.int .u64 R))
  have HRm := hide ((unhide HRm).set5 (.int .i64 e) (.int .i64 f) (.bool n) (.int .u64 0) (.int .u64 R))
  have HS := hide hHeld
  clear hHeld hSu hTu k1 c0 c1 c2 c3 c4 f0 f1 f2 f3 f4
  generalize ((((wf.setCell ⟨b1, 0, none⟩ (.int .i64 e)).setCell ⟨b1, 1, none⟩ (.int .i64 f)).setCell ⟨b1, 2, none⟩ (.bool n)).setCell ⟨b1, 3, none⟩ (.int .u64 0)).setCell ⟨b1, 4, none⟩ (.int .u64 R) = wx at *
  obtain ⟨⟨s0, s1⟩, p0, p1, p2, p3⟩ := unhide HS
  go_wp2_with fail
  clear s0 s1 p0 p1 p2 p3
  have HB := hide (unhide HB).drew
  have HA5 := hide ((unhide HA5).below ((Below.refl _ _).drew))
  have HRm := hide (unhide HRm).drew
  have HS := hide (((stable_at2 _ _ _).and (stable_at4 _ _ _ _ _)) _ _ (unhide HS) ((Below.refl _ _).drew))
  refine wp_region_held_drew (S := fun w' => (w'.cell? ⟨W.heap.size, 0, none⟩ = some (.int .i64 e) ∧ w'.cell? ⟨W.heap.size, 1, none⟩ = some (.int .i64 f)) ∧ (w'.cell? ⟨W.heap.size + 1, 0, none⟩ = some (.bool n) ∧ w'.cell? ⟨W.heap.size + 1, 1, none⟩ = some (.int .i64 K) ∧ w'.cell? ⟨W.heap.size + 1, 2, none⟩ = some (.int .i64 X) ∧ w'.cell? ⟨W.heap.size + 1, 3, none⟩ = some (.int .u64 S))) (by kernel_rfl) ?_ (fun hHeld => ?_)
  · (try dsimp only)
    exact unhide HS
  refine lst0 12 (by kernel_rfl) ?_
  refine tkA 0 36 1 ?_
  refine tkA 1 37 3 ?_
  refine tkA 2 38 7 ?_
  refine rdA 3 15 (fun Kk hKk => ?_)
  go_simp
  refine (least_any hs _).mono ?_
  rintro _ wl ⟨rfl, hbl⟩
  have HB := hide (bthen (unhide HB) hbl)
  have HA5 := hide ((unhide HA5).below hbl)
  have HRm := hide ((unhide HRm).below hbl)
  have HS := hide (((stable_at2 _ _ _).and (stable_at4 _ _ _ _ _)) _ _ (unhide HS) hbl)
  clear hbl
  (try go_wp2_with fail)
  refine hKk.out _ _ ?_ (fun hHeld => ?_)
  · (try dsimp only)
    exact unhide HS
  clear hKk Kk
  (try simp only [List.setIfInBounds_toArray, List.set_cons_zero, List.set_cons_succ])
  refine tkA 4 40 31 ?_
  refine tkA 5 41 63 ?_
  refine tkU 6 42 127 ?_
  refine tkU 7 43 255 ?_
  refine tkU 8 44 511 ?_
  refine rdA 9 1023 (fun Kk hKk => ?_)
  go_simp
  refine hKk.out _ _ ?_ (fun hHeld => ?_)
  · (try dsimp only)
    exact hHeld
  clear hKk Kk
  (try simp only [List.setIfInBounds_toArray, List.set_cons_zero, List.set_cons_succ])
  refine tkU 10 46 2047 ?_
  refine tkA 11 47 4095 ?_
  refine wpAnyH_done (by kernel_rfl) ?_ _
  clear hHeld
  go_wp2_with fail
  go_ret2
  exact ⟨rfl, unhide HB⟩

set_option maxRecDepth 100000 in
set_option maxHeartbeats 4000000 in
theorem fin_hi {e f P Q b K X S D R : Int} {n : Bool} (W : World) (hs : Sz e f P Q b) (g0 : 0 ≤ f) (g1 : f ≤ 63)
    (kp : IntKind.u64.wrap (P - 1) = P - 1) (ka : bits .and .u64 S (P - 1) = R) (kd : S / 2 ^ f.toNat = D) (d0 : (D == 0) = false) (d1 : (D == 1) = true) (x0 : decide (X < 1 - b - f) = false) (x1 : decide (Q - 2 - b - f < X) = true) :
    Calls Tryz.prog 283 #[.agg #[.int .i64 e, .int .i64 f], .agg #[.bool n, .int .i64 K, .int .i64 X, .int .u64 S]] W fun r W' => r = .returned (.tuple #[.int .u64 0, .int .i64 2]) ∧ Below W.heap.size W W' := by
  go_enter Tryz.func283, Tryz.ntmps283
  go_wp2_with fail
  have hz0 : W.heap.size ≠ W.heap.size + 1 := by omega
  refine wp_region_held_drew (S := fun w' => (w'.cell? ⟨W.heap.size, 0, none⟩ = some (.int .i64 e) ∧ w'.cell? ⟨W.heap.size, 1, none⟩ = some (.int .i64 f)) ∧ (w'.cell? ⟨W.heap.size + 1, 0, none⟩ = some (.bool n) ∧ w'.cell? ⟨W.heap.size + 1, 1, none⟩ = some (.int .i64 K) ∧ w'.cell? ⟨W.heap.size + 1, 2, none⟩ = some (.int .i64 X) ∧ w'.cell? ⟨W.heap.size + 1, 3, none⟩ = some (.int .u64 S))) (by kernel_rfl) ?_ (fun hHeld => ?_)
  · (try dsimp only)
    simp [go_sem]
  refine wo_start (N := W.heap.size + 1 + 1) (i1 := 10) (d1 := 6) (v1 := #[.int .i64 0, .int .i64 0, .bool false, .int .u64 0, .int .u64 0]) (t1 := 82) (f := 1) (n := 10) (T := fun w' => Below W.heap.size W w') (by kernel_rfl) (by kernel_rfl) (fun _ _ _ _ _ h => h) ((stable_at2 _ _ _).and (stable_at4 _ _ _ _ _)) ?_ (stable_below W) hHeld ((below2 W _ _).drew) (by simp) ?_
  · intro a w K h
    unfold wpOp
    go_simp
    exact Or.inl h
  clear hHeld
  refine woA 0 7 ?_
  refine woA 1 8 ?_
  refine woA 2 9 ?_
  refine woA 3 10 ?_
  refine woA 4 11 ?_
  refine woA 5 12 ?_
  refine wo_call (c := 6) (o := { dst := some 13, op := _, type := _, pos := _, after := _, guard := _ }) rfl (by kernel_rfl) (by kernel_rfl) (fun u hSu hTu Kk hKk => ?_)
  go_simp
  refine (one_any hs _).mono ?_
  rintro _ wn ⟨rfl, hbl⟩
  have HTn := hide (bthen hTu hbl)
  clear hTu hSu
  (try go_wp2_with fail)
  refine hKk.out _ _ (fun w' => Below W.heap.size W w') (by assumption) (stable_below W) (unhide HTn) ?_
  clear hKk Kk HTn
  (try simp only [Act.put, List.setIfInBounds_toArray, List.set_cons_zero, List.set_cons_succ])
  refine woA 7 14 ?_
  refine woA 8 15 ?_
  refine woA 9 16 ?_
  refine wo_fin (by kernel_rfl) (fun wf b1 hSu hTu k1 => ?_)
  (try simp only [Act.put, List.setIfInBounds_toArray, List.set_cons_zero, List.set_cons_succ])
  unfold ptr
  have zb := k1.base
  have HRm := hide (fresh_room k1)
  obtain ⟨⟨v0, c0⟩, f0⟩ := (unhide HRm) 0 (by omega)
  obtain ⟨⟨v1, c1⟩, f1⟩ := (unhide HRm) 1 (by omega)
  obtain ⟨⟨v2, c2⟩, f2⟩ := (unhide HRm) 2 (by omega)
  obtain ⟨⟨v3, c3⟩, f3⟩ := (unhide HRm) 3 (by omega)
  obtain ⟨⟨v4, c4⟩, f4⟩ := (unhide HRm) 4 (by omega)
  refine anyH_at #[true, true, true, true, true, true, true, true, true, true, true, false] (by kernel_rfl) ?_
  refine wpAnyH_ready (rs := [11]) (by kernel_rfl) (by simp) ?_
  refine AllReadyH.cons (o := { dst := none, op := _, type := _, pos := _, after := _, guard := _ }) rfl (fun Kk hKk => ?_) AllReadyH.nil
  go_simp
  refine hKk.out _ _ ?_ (fun hHeld => ?_)
  · (try dsimp only)
    exact ⟨At2.set5 hSu.1 (by omega) _ _ _ _ _, At4.set5 hSu.2 (by omega) _ _ _ _ _⟩
  clear hKk Kk
  refine wpAnyH_done (by kernel_rfl) ?_ _
  have HA5 := hide (at5_set5 (unhide HRm) (.int .i64 e) (.int .i64 f) (.bool n) (.int .u64 0) (.int .u64 R))
  have HB := hide (bset5 (c := b1) hTu (by omega) (.int .i64 e) (.int .i64 f) (.bool n) (.int .u64 0) (.int .u64 R))
  have HRm := hide ((unhide HRm).set5 (.int .i64 e) (.int .i64 f) (.bool n) (.int .u64 0) (.int .u64 R))
  have HS := hide hHeld
  clear hHeld hSu hTu k1 c0 c1 c2 c3 c4 f0 f1 f2 f3 f4
  generalize ((((wf.setCell ⟨b1, 0, none⟩ (.int .i64 e)).setCell ⟨b1, 1, none⟩ (.int .i64 f)).setCell ⟨b1, 2, none⟩ (.bool n)).setCell ⟨b1, 3, none⟩ (.int .u64 0)).setCell ⟨b1, 4, none⟩ (.int .u64 R) = wx at *
  obtain ⟨⟨s0, s1⟩, p0, p1, p2, p3⟩ := unhide HS
  go_wp2_with fail
  clear s0 s1 p0 p1 p2 p3
  have HB := hide (unhide HB).drew
  have HA5 := hide ((unhide HA5).below ((Below.refl _ _).drew))
  have HRm := hide (unhide HRm).drew
  have HS := hide (((stable_at2 _ _ _).and (stable_at4 _ _ _ _ _)) _ _ (unhide HS) ((Below.refl _ _).drew))
  refine wp_region_held_drew (S := fun w' => (w'.cell? ⟨W.heap.size, 0, none⟩ = some (.int .i64 e) ∧ w'.cell? ⟨W.heap.size, 1, none⟩ = some (.int .i64 f)) ∧ (w'.cell? ⟨W.heap.size + 1, 0, none⟩ = some (.bool n) ∧ w'.cell? ⟨W.heap.size + 1, 1, none⟩ = some (.int .i64 K) ∧ w'.cell? ⟨W.heap.size + 1, 2, none⟩ = some (.int .i64 X) ∧ w'.cell? ⟨W.heap.size + 1, 3, none⟩ = some (.int .u64 S))) (by kernel_rfl) ?_ (fun hHeld => ?_)
  · (try dsimp only)
    exact unhide HS
  refine lst0 12 (by kernel_rfl) ?_
  refine tkA 0 36 1 ?_
  refine tkA 1 37 3 ?_
  refine tkA 2 38 7 ?_
  refine rdA 3 15 (fun Kk hKk => ?_)
  go_simp
  refine (least_any hs _).mono ?_
  rintro _ wl ⟨rfl, hbl⟩
  have HB := hide (bthen (unhide HB) hbl)
  have HA5 := hide ((unhide HA5).below hbl)
  have HRm := hide ((unhide HRm).below hbl)
  have HS := hide (((stable_at2 _ _ _).and (stable_at4 _ _ _ _ _)) _ _ (unhide HS) hbl)
  clear hbl
  (try go_wp2_with fail)
  refine hKk.out _ _ ?_ (fun hHeld => ?_)
  · (try dsimp only)
    exact unhide HS
  clear hKk Kk
  (try simp only [List.setIfInBounds_toArray, List.set_cons_zero, List.set_cons_succ])
  refine tkA 4 40 31 ?_
  refine tkA 5 41 63 ?_
  refine tkA 6 42 127 ?_
  refine tkA 7 43 255 ?_
  refine tkA 8 44 511 ?_
  refine rdA 9 1023 (fun Kk hKk => ?_)
  go_simp
  refine (most_any hs _).mono ?_
  rintro _ wm ⟨rfl, hbl⟩
  have HB := hide (bthen (unhide HB) hbl)
  have HA5 := hide ((unhide HA5).below hbl)
  have HRm := hide ((unhide HRm).below hbl)
  have HS := hide (((stable_at2 _ _ _).and (stable_at4 _ _ _ _ _)) _ _ (unhide HS) hbl)
  clear hbl
  (try go_wp2_with fail)
  refine hKk.out _ _ ?_ (fun hHeld => ?_)
  · (try dsimp only)
    exact unhide HS
  clear hKk Kk
  (try simp only [List.setIfInBounds_toArray, List.set_cons_zero, List.set_cons_succ])
  refine tkA 10 46 2047 ?_
  refine tkA 11 47 4095 ?_
  refine wpAnyH_done (by kernel_rfl) ?_ _
  clear hHeld
  go_wp2_with fail
  go_ret2
  exact ⟨rfl, unhide HB⟩

set_option maxRecDepth 100000 in
set_option maxHeartbeats 4000000 in
theorem fin_nor {e f P Q b K X S D R : Int} {n : Bool} (W : World) (hs : Sz e f P Q b) (g0 : 0 ≤ f) (g1 : f ≤ 63)
    (kp : IntKind.u64.wrap (P - 1) = P - 1) (ka : bits .and .u64 S (P - 1) = R) (kd : S / 2 ^ f.toNat = D) (d0 : (D == 0) = false) (d1 : (D == 1) = true) (x0 : decide (X < 1 - b - f) = false) (x1 : decide (Q - 2 - b - f < X) = false) {E V G : Int} (HP : Ct 50 #[.agg #[.int .i64 e, .int .i64 f], .int .i64 0] (.int .i64 G)) (k0 : IntKind.i64.wrap (X - G) = E) (k1 : IntKind.u64.wrap E = E) (HC : Ct 54 #[.agg #[.int .i64 e, .int .i64 f, .bool n, .int .u64 E, .int .u64 R]] (.int .u64 V)) :
    Calls Tryz.prog 283 #[.agg #[.int .i64 e, .int .i64 f], .agg #[.bool n, .int .i64 K, .int .i64 X, .int .u64 S]] W fun r W' => r = .returned (.tuple #[.int .u64 V, .int .i64 0]) ∧ Below W.heap.size W W' := by
  go_enter Tryz.func283, Tryz.ntmps283
  go_wp2_with fail
  have hz0 : W.heap.size ≠ W.heap.size + 1 := by omega
  refine wp_region_held_drew (S := fun w' => (w'.cell? ⟨W.heap.size, 0, none⟩ = some (.int .i64 e) ∧ w'.cell? ⟨W.heap.size, 1, none⟩ = some (.int .i64 f)) ∧ (w'.cell? ⟨W.heap.size + 1, 0, none⟩ = some (.bool n) ∧ w'.cell? ⟨W.heap.size + 1, 1, none⟩ = some (.int .i64 K) ∧ w'.cell? ⟨W.heap.size + 1, 2, none⟩ = some (.int .i64 X) ∧ w'.cell? ⟨W.heap.size + 1, 3, none⟩ = some (.int .u64 S))) (by kernel_rfl) ?_ (fun hHeld => ?_)
  · (try dsimp only)
    simp [go_sem]
  refine wo_start (N := W.heap.size + 1 + 1) (i1 := 10) (d1 := 6) (v1 := #[.int .i64 0, .int .i64 0, .bool false, .int .u64 0, .int .u64 0]) (t1 := 82) (f := 1) (n := 10) (T := fun w' => Below W.heap.size W w') (by kernel_rfl) (by kernel_rfl) (fun _ _ _ _ _ h => h) ((stable_at2 _ _ _).and (stable_at4 _ _ _ _ _)) ?_ (stable_below W) hHeld ((below2 W _ _).drew) (by simp) ?_
  · intro a w K h
    unfold wpOp
    go_simp
    exact Or.inl h
  clear hHeld
  refine woA 0 7 ?_
  refine woA 1 8 ?_
  refine woA 2 9 ?_
  refine woA 3 10 ?_
  refine woA 4 11 ?_
  refine woA 5 12 ?_
  refine wo_call (c := 6) (o := { dst := some 13, op := _, type := _, pos := _, after := _, guard := _ }) rfl (by kernel_rfl) (by kernel_rfl) (fun u hSu hTu Kk hKk => ?_)
  go_simp
  refine (one_any hs _).mono ?_
  rintro _ wn ⟨rfl, hbl⟩
  have HTn := hide (bthen hTu hbl)
  clear hTu hSu
  (try go_wp2_with fail)
  refine hKk.out _ _ (fun w' => Below W.heap.size W w') (by assumption) (stable_below W) (unhide HTn) ?_
  clear hKk Kk HTn
  (try simp only [Act.put, List.setIfInBounds_toArray, List.set_cons_zero, List.set_cons_succ])
  refine woA 7 14 ?_
  refine woA 8 15 ?_
  refine woA 9 16 ?_
  refine wo_fin (by kernel_rfl) (fun wf b1 hSu hTu k1 => ?_)
  (try simp only [Act.put, List.setIfInBounds_toArray, List.set_cons_zero, List.set_cons_succ])
  unfold ptr
  have zb := k1.base
  have HRm := hide (fresh_room k1)
  obtain ⟨⟨v0, c0⟩, f0⟩ := (unhide HRm) 0 (by omega)
  obtain ⟨⟨v1, c1⟩, f1⟩ := (unhide HRm) 1 (by omega)
  obtain ⟨⟨v2, c2⟩, f2⟩ := (unhide HRm) 2 (by omega)
  obtain ⟨⟨v3, c3⟩, f3⟩ := (unhide HRm) 3 (by omega)
  obtain ⟨⟨v4, c4⟩, f4⟩ := (unhide HRm) 4 (by omega)
  refine anyH_at #[true, true, true, true, true, true, true, true, true, true, true, false] (by kernel_rfl) ?_
  refine wpAnyH_ready (rs := [11]) (by kernel_rfl) (by simp) ?_
  refine AllReadyH.cons (o := { dst := none, op := _, type := _, pos := _, after := _, guard := _ }) rfl (fun Kk hKk => ?_) AllReadyH.nil
  go_simp
  refine hKk.out _ _ ?_ (fun hHeld => ?_)
  · (try dsimp only)
    exact ⟨At2.set5 hSu.1 (by omega) _ _ _ _ _, At4.set5 hSu.2 (by omega) _ _ _ _ _⟩
  clear hKk Kk
  refine wpAnyH_done (by kernel_rfl) ?_ _
  have HA5 := hide (at5_set5 (unhide HRm) (.int .i64 e) (.int .i64 f) (.bool n) (.int .u64 0) (.int .u64 R))
  have HB := hide (bset5 (c := b1) hTu (by omega) (.int .i64 e) (.int .i64 f) (.bool n) (.int .u64 0) (.int .u64 R))
  have HRm := hide ((unhide HRm).set5 (.int .i64 e) (.int .i64 f) (.bool n) (.int .u64 0) (.int .u64 R))
  have HS := hide hHeld
  clear hHeld hSu hTu k1 c0 c1 c2 c3 c4 f0 f1 f2 f3 f4
  generalize ((((wf.setCell ⟨b1, 0, none⟩ (.int .i64 e)).setCell ⟨b1, 1, none⟩ (.int .i64 f)).setCell ⟨b1, 2, none⟩ (.bool n)).setCell ⟨b1, 3, none⟩ (.int .u64 0)).setCell ⟨b1, 4, none⟩ (.int .u64 R) = wx at *
  obtain ⟨⟨s0, s1⟩, p0, p1, p2, p3⟩ := unhide HS
  go_wp2_with fail
  clear s0 s1 p0 p1 p2 p3
  have HB := hide (unhide HB).drew
  have HA5 := hide ((unhide HA5).below ((Below.refl _ _).drew))
  have HRm := hide (unhide HRm).drew
  have HS := hide (((stable_at2 _ _ _).and (stable_at4 _ _ _ _ _)) _ _ (unhide HS) ((Below.refl _ _).drew))
  refine wp_region_held_drew (S := fun w' => (w'.cell? ⟨W.heap.size, 0, none⟩ = some (.int .i64 e) ∧ w'.cell? ⟨W.heap.size, 1, none⟩ = some (.int .i64 f)) ∧ (w'.cell? ⟨W.heap.size + 1, 0, none⟩ = some (.bool n) ∧ w'.cell? ⟨W.heap.size + 1, 1, none⟩ = some (.int .i64 K) ∧ w'.cell? ⟨W.heap.size + 1, 2, none⟩ = some (.int .i64 X) ∧ w'.cell? ⟨W.heap.size + 1, 3, none⟩ = some (.int .u64 S))) (by kernel_rfl) ?_ (fun hHeld => ?_)
  · (try dsimp only)
    exact unhide HS
  refine lst0 12 (by kernel_rfl) ?_
  refine tkA 0 36 1 ?_
  refine tkA 1 37 3 ?_
  refine tkA 2 38 7 ?_
  refine rdA 3 15 (fun Kk hKk => ?_)
  go_simp
  refine (least_any hs _).mono ?_
  rintro _ wl ⟨rfl, hbl⟩
  have HB := hide (bthen (unhide HB) hbl)
  have HA5 := hide ((unhide HA5).below hbl)
  have HRm := hide ((unhide HRm).below hbl)
  have HS := hide (((stable_at2 _ _ _).and (stable_at4 _ _ _ _ _)) _ _ (unhide HS) hbl)
  clear hbl
  (try go_wp2_with fail)
  refine hKk.out _ _ ?_ (fun hHeld => ?_)
  · (try dsimp only)
    exact unhide HS
  clear hKk Kk
  (try simp only [List.setIfInBounds_toArray, List.set_cons_zero, List.set_cons_succ])
  refine tkA 4 40 31 ?_
  refine tkA 5 41 63 ?_
  refine tkA 6 42 127 ?_
  refine tkA 7 43 255 ?_
  refine tkA 8 44 511 ?_
  refine rdA 9 1023 (fun Kk hKk => ?_)
  go_simp
  refine (most_any hs _).mono ?_
  rintro _ wm ⟨rfl, hbl⟩
  have HB := hide (bthen (unhide HB) hbl)
  have HA5 := hide ((unhide HA5).below hbl)
  have HRm := hide ((unhide HRm).below hbl)
  have HS := hide (((stable_at2 _ _ _).and (stable_at4 _ _ _ _ _)) _ _ (unhide HS) hbl)
  clear hbl
  (try go_wp2_with fail)
  refine hKk.out _ _ ?_ (fun hHeld => ?_)
  · (try dsimp only)
    exact unhide HS
  clear hKk Kk
  (try simp only [List.setIfInBounds_toArray, List.set_cons_zero, List.set_cons_succ])
  refine tkA 10 46 2047 ?_
  refine tkA 11 47 4095 ?_
  refine wpAnyH_done (by kernel_rfl) ?_ _
  clear hHeld
  go_wp2_with fail
  have HB := hide (unhide HB).drew
  have HA5 := hide ((unhide HA5).below ((Below.refl _ _).drew))
  have HRm := hide (unhide HRm).drew
  have HS := hide (((stable_at2 _ _ _).and (stable_at4 _ _ _ _ _)) _ _ (unhide HS) ((Below.refl _ _).drew))
  refine wp_region_held_drew (S := fun w' => ((w'.cell? ⟨W.heap.size, 0, none⟩ = some (.int .i64 e) ∧ w'.cell? ⟨W.heap.size, 1, none⟩ = some (.int .i64 f)) ∧ (w'.cell? ⟨W.heap.size + 1, 0, none⟩ = some (.bool n) ∧ w'.cell? ⟨W.heap.size + 1, 1, none⟩ = some (.int .i64 K) ∧ w'.cell? ⟨W.heap.size + 1, 2, none⟩ = some (.int .i64 X) ∧ w'.cell? ⟨W.heap.size + 1, 3, none⟩ = some (.int .u64 S))) ∧ Room b1 5 w') (by kernel_rfl) ?_ (fun hHeld => ?_)
  · (try dsimp only)
    exact ⟨unhide HS, unhide HRm⟩
  refine lst0 8 (by kernel_rfl) ?_
  refine tkA 0 48 1 ?_
  refine tkA 1 49 3 ?_
  refine tkA 2 50 7 ?_
  refine rdA 3 15 (fun Kk hKk => ?_)
  go_simp
  refine (unhide HP _).mono ?_
  rintro _ wp ⟨rfl, hbl⟩
  have HB := hide (bthen (unhide HB) hbl)
  have HA5 := hide ((unhide HA5).below hbl)
  have HRm := hide ((unhide HRm).below hbl)
  have HS := hide (((stable_at2 _ _ _).and (stable_at4 _ _ _ _ _)) _ _ (unhide HS) hbl)
  clear hbl
  (try go_wp2_with fail)
  refine hKk.out _ _ ?_ (fun hHeld => ?_)
  · (try dsimp only)
    exact ⟨unhide HS, unhide HRm⟩
  clear hKk Kk
  (try simp only [List.setIfInBounds_toArray, List.set_cons_zero, List.set_cons_succ])
  refine tkA 4 52 31 ?_
  refine tkA 5 53 63 ?_
  refine tkA 6 54 127 ?_
  refine rdA 7 255 (fun Kk hKk => ?_)
  obtain ⟨⟨v3, c3⟩, f3⟩ := hHeld.2 3 (by omega)
  go_simp
  refine hKk.out _ _ ?_ (fun hHeld => ?_)
  · (try dsimp only)
    exact ⟨⟨At2.set (unhide HS).1 (by omega) _ _, At4.set (unhide HS).2 (by omega) _ _⟩, hHeld.2.set _ _⟩
  clear hKk Kk
  (try simp only [List.setIfInBounds_toArray, List.set_cons_zero, List.set_cons_succ])
  refine wpAnyH_done (by kernel_rfl) ?_ _
  clear hHeld
  have HA5 := hide (at5_set3 (unhide HA5) (.int .u64 E))
  have HB := hide (bset (unhide HB) b1 (by omega) 3 (.int .u64 E))
  obtain ⟨a0, a1, a2, a3, a4⟩ := unhide HA5
  go_wp2_with fail
  refine (unhide HC _).mono ?_
  rintro _ wz ⟨rfl, hbl⟩
  have HB := hide (bthen (unhide HB) hbl)
  go_wp2_with fail
  go_ret2
  exact ⟨rfl, unhide HB⟩

end Go.Proofs.YtpbgpdmffejdgaaGreatDoor
