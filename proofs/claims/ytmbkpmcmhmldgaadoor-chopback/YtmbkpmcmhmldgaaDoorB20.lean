/- ChW, Close, WhA, ChB. -/
import Derived.Test.YtmbkpmcmhmldgaaDoorB01
import Derived.Test.YtmbkpmcmhmldgaaDoorB05
import Derived.Test.YtmbkpmcmhmldgaaDoorB06
import Derived.Test.YtmbkpmcmhmldgaaDoorB07
import Derived.Test.YtmbkpmcmhmldgaaDoorB11
namespace Go.Proofs.YtmbkpmcmhmldgaaDoor
open Go.RowKit

set_option maxHeartbeats 4000000 in
set_option maxRecDepth 100000 in
theorem awake_l (W : World) (H1 : Ct 5 #[.int .i64 64, .int .i64 32, .int .u64 13829653735729319117, .bool false] (.tuple #[.int .u64 0, .int .i64 0])) (H2 : Ct 5 #[.int .i64 64, .int .i64 32, .int .u64 13840687554816376832, .bool false] (.tuple #[.int .u64 0, .int .i64 3])) (H3 : Ct 6 #[.int .i64 64, .int .i64 32, .int .u64 13840687554816376832, .bool false] (.int .u64 0)) (H4 : Ct 6 #[.int .i64 64, .int .i64 32, .int .u64 4617315517961601024, .bool true] (.int .u64 5)) :
    Calls Tryd.prog 4 #[] W fun r W' => r = .returned (.bool true) ∧ Below W.heap.size W W' := by
  have HB := hide (Below.refl W.heap.size W)
  go_enter Tryd.func4, Tryd.ntmps4
  go_wp2_with fail
  refine (unhide H1 _).mono ?_
  rintro _ w1 ⟨rfl, hb⟩
  have HB := hide (bthen (unhide HB) hb)
  clear hb
  go_wp2_with fail
  refine (unhide H2 _).mono ?_
  rintro _ w2 ⟨rfl, hb⟩
  have HB := hide (bthen (unhide HB) hb)
  clear hb
  go_wp2_with fail
  refine (unhide H3 _).mono ?_
  rintro _ w3 ⟨rfl, hb⟩
  have HB := hide (bthen (unhide HB) hb)
  clear hb
  go_wp2_with fail
  refine (unhide H4 _).mono ?_
  rintro _ w4 ⟨rfl, hb⟩
  have HB := hide (bthen (unhide HB) hb)
  clear hb
  go_wp2_with fail
  go_ret
  exact ⟨by simp, unhide HB⟩
end Go.Proofs.YtmbkpmcmhmldgaaDoor
namespace Go.Proofs.YtmbkpmcmhmldgaaDoor
open Go.RowKit

theorem At2.set {b c : Nat} {x y : Value} {w : World} (h : At2 b x y w) (hc : b ≠ c) (o : Nat) (k : Value) : At2 b x y (w.setCell ⟨c, o, none⟩ k) :=
  ⟨keep_set _ _ _ hc h.1, keep_set _ _ _ hc h.2⟩
theorem At4.set {b c : Nat} {x y z u : Value} {w : World} (h : At4 b x y z u w) (hc : b ≠ c) (o : Nat) (k : Value) : At4 b x y z u (w.setCell ⟨c, o, none⟩ k) :=
  ⟨keep_set _ _ _ hc h.1, keep_set _ _ _ hc h.2.1, keep_set _ _ _ hc h.2.2.1, keep_set _ _ _ hc h.2.2.2⟩
theorem At2.set5 {b c : Nat} {x y : Value} {w : World} (h : At2 b x y w) (hc : b ≠ c) (v0 v1 v2 v3 v4 : Value) :
    At2 b x y (((((w.setCell ⟨c, 0, none⟩ v0).setCell ⟨c, 1, none⟩ v1).setCell ⟨c, 2, none⟩ v2).setCell ⟨c, 3, none⟩ v3).setCell ⟨c, 4, none⟩ v4) :=
  ((((h.set hc _ _).set hc _ _).set hc _ _).set hc _ _).set hc _ _
theorem At4.set5 {b c : Nat} {x y z u : Value} {w : World} (h : At4 b x y z u w) (hc : b ≠ c) (v0 v1 v2 v3 v4 : Value) :
    At4 b x y z u (((((w.setCell ⟨c, 0, none⟩ v0).setCell ⟨c, 1, none⟩ v1).setCell ⟨c, 2, none⟩ v2).setCell ⟨c, 3, none⟩ v3).setCell ⟨c, 4, none⟩ v4) :=
  ((((h.set hc _ _).set hc _ _).set hc _ _).set hc _ _).set hc _ _
theorem Room.set5 {b : Nat} {w : World} (h : Room b 5 w) (v0 v1 v2 v3 v4 : Value) :
    Room b 5 (((((w.setCell ⟨b, 0, none⟩ v0).setCell ⟨b, 1, none⟩ v1).setCell ⟨b, 2, none⟩ v2).setCell ⟨b, 3, none⟩ v3).setCell ⟨b, 4, none⟩ v4) :=
  ((((h.set _ _).set _ _).set _ _).set _ _).set _ _
theorem set_same {b o : Nat} {w : World} (h : Room b 5 w) (ho : o < 5) (v : Value) : (w.setCell ⟨b, o, none⟩ v).cell? ⟨b, o, none⟩ = some v := by
  obtain ⟨⟨u, h1⟩, _⟩ := h o ho
  exact World.cell?_setCell_same _ _ _ h1
theorem set_off {b o o' : Nat} {w : World} {x : Value} (v : Value) (hne : o ≠ o') (h : w.cell? ⟨b, o, none⟩ = some x) : (w.setCell ⟨b, o', none⟩ v).cell? ⟨b, o, none⟩ = some x := by
  rw [World.cell?_setCell_other _ _ _ _ (by intro hh; injection hh with _ h3; exact hne h3.symm)]; exact h
theorem at5_set5 {b : Nat} {w : World} (h : Room b 5 w) (v0 v1 v2 v3 v4 : Value) :
    At5 b v0 v1 v2 v3 v4 (((((w.setCell ⟨b, 0, none⟩ v0).setCell ⟨b, 1, none⟩ v1).setCell ⟨b, 2, none⟩ v2).setCell ⟨b, 3, none⟩ v3).setCell ⟨b, 4, none⟩ v4) :=
  ⟨set_off _ (by omega) (set_off _ (by omega) (set_off _ (by omega) (set_off _ (by omega) (set_same h (by omega) _)))),
   set_off _ (by omega) (set_off _ (by omega) (set_off _ (by omega) (set_same (h.set _ _) (by omega) _))),
   set_off _ (by omega) (set_off _ (by omega) (set_same ((h.set _ _).set _ _) (by omega) _)),
   set_off _ (by omega) (set_same (((h.set _ _).set _ _).set _ _) (by omega) _),
   set_same ((((h.set _ _).set _ _).set _ _).set _ _) (by omega) _⟩
theorem bset5 {a b : World} {c : Nat} (h : Below a.heap.size a b) (hc : a.heap.size ≤ c) (v0 v1 v2 v3 v4 : Value) :
    Below a.heap.size a (((((b.setCell ⟨c, 0, none⟩ v0).setCell ⟨c, 1, none⟩ v1).setCell ⟨c, 2, none⟩ v2).setCell ⟨c, 3, none⟩ v3).setCell ⟨c, 4, none⟩ v4) :=
  bset (bset (bset (bset (bset h _ hc _ _) _ hc _ _) _ hc _ _) _ hc _ _) _ hc _ _
theorem fresh_room {N b : Nat} {v0 v1 v2 v3 v4 : Value} {w : World} (h : Fresh N #[v0, v1, v2, v3, v4] b w) : Room b 5 w := fun o ho => by
  refine ⟨?_, h.thawed o⟩
  match o, ho with
  | 0, _ => exact ⟨_, h.cell 0 _ rfl⟩
  | 1, _ => exact ⟨_, h.cell 1 _ rfl⟩
  | 2, _ => exact ⟨_, h.cell 2 _ rfl⟩
  | 3, _ => exact ⟨_, h.cell 3 _ rfl⟩
  | 4, _ => exact ⟨_, h.cell 4 _ rfl⟩
theorem stable_at2 (b : Nat) (x y : Value) : Stable (At2 b x y) := fun _ _ h k => h.below k
theorem stable_at4 (b : Nat) (x y z u : Value) : Stable (At4 b x y z u) := fun _ _ h k => h.below k
theorem at5_set3 {b : Nat} {x y z u v : Value} {w : World} (h : At5 b x y z u v w) (k : Value) : At5 b x y z k v (w.setCell ⟨b, 3, none⟩ k) :=
  ⟨set_off _ (by omega) h.1, set_off _ (by omega) h.2.1, set_off _ (by omega) h.2.2.1, World.cell?_setCell_same _ _ _ h.2.2.2.1, set_off _ (by omega) h.2.2.2.2⟩

set_option maxRecDepth 100000 in
set_option maxHeartbeats 4000000 in
theorem fin_big {e f P Q b K X S D R : Int} {n : Bool} (W : World) (hs : Sz e f P Q b) (g0 : 0 ≤ f) (g1 : f ≤ 63)
    (kp : IntKind.u64.wrap (P - 1) = P - 1) (ka : bits .and .u64 S (P - 1) = R) (kd : S / 2 ^ f.toNat = D) (d0 : (D == 0) = false) (d1 : (D == 1) = false) :
    Calls Tryd.prog 57 #[.agg #[.int .i64 e, .int .i64 f], .agg #[.bool n, .int .i64 K, .int .i64 X, .int .u64 S]] W fun r W' => r = .returned (.tuple #[.int .u64 0, .int .i64 2]) ∧ Below W.heap.size W W' := by
  go_enter Tryd.func57, Tryd.ntmps57
  go_wp2_with fail
  have hz0 : W.heap.size ≠ W.heap.size + 1 := by omega
  refine wp_region_held_drew (S := fun w' => (w'.cell? ⟨W.heap.size, 0, none⟩ = some (.int .i64 e) ∧ w'.cell? ⟨W.heap.size, 1, none⟩ = some (.int .i64 f)) ∧ (w'.cell? ⟨W.heap.size + 1, 0, none⟩ = some (.bool n) ∧ w'.cell? ⟨W.heap.size + 1, 1, none⟩ = some (.int .i64 K) ∧ w'.cell? ⟨W.heap.size + 1, 2, none⟩ = some (.int .i64 X) ∧ w'.cell? ⟨W.heap.size + 1, 3, none⟩ = some (.int .u64 S))) (by kernel_rfl) ?_ (fun hHeld => ?_)
  · (try dsimp only)
    simp [go_sem]
  refine wo_start (N := W.heap.size + 1 + 1) (i1 := 10) (d1 := 6) (v1 := #[.int .i64 0, .int .i64 0, .bool false, .int .u64 0, .int .u64 0]) (t1 := 59) (f := 1) (n := 10) (T := fun w' => Below W.heap.size W w') (by kernel_rfl) (by kernel_rfl) (fun _ _ _ _ _ h => h) ((stable_at2 _ _ _).and (stable_at4 _ _ _ _ _)) ?_ (stable_below W) hHeld ((below2 W _ _).drew) (by simp) ?_
  · intro a w K h
    unfold wpOp
    go_simp
    exact Or.inl h
  clear hHeld
  refine woA 0 7 ?_
  refine woA 1 8 ?_
  refine woA 2 9 ?_
  refine woA 3 10 ?_
  refine woA 4 11 ?_
  refine woA 5 12 ?_
  refine wo_call (c := 6) (o := { dst := some 13, op := _, type := _, pos := _, after := _, guard := _ }) rfl (by kernel_rfl) (by kernel_rfl) (fun u hSu hTu Kk hKk => ?_)
  go_simp
  refine (one_any hs _).mono ?_
  rintro _ wn ⟨rfl, hbl⟩
  have HTn := hide (bthen hTu hbl)
  clear hTu hSu
  (try go_wp2_with fail)
  refine hKk.out _ _ (fun w' => Below W.heap.size W w') (by assumption) (stable_below W) (unhide HTn) ?_
  clear hKk Kk HTn
  (try simp only [Act.put, List.setIfInBounds_toArray, List.set_cons_zero, List.set_cons_succ])
  refine woA 7 14 ?_
  refine woA 8 15 ?_
  refine woA 9 16 ?_
  refine wo_fin (by kernel_rfl) (fun wf b1 hSu hTu k1 => ?_)
  (try simp only [Act.put, List.setIfInBounds_toArray, List.set_cons_zero, List.set_cons_succ])
  unfold ptr
  have zb := k1.base
  have HRm := hide (fresh_room k1)
  obtain ⟨⟨v0, c0⟩, f0⟩ := (unhide HRm) 0 (by omega)
  obtain ⟨⟨v1, c1⟩, f1⟩ := (unhide HRm) 1 (by omega)
  obtain ⟨⟨v2, c2⟩, f2⟩ := (unhide HRm) 2 (by omega)
  obtain ⟨⟨v3, c3⟩, f3⟩ := (unhide HRm) 3 (by omega)
  obtain ⟨⟨v4, c4⟩, f4⟩ := (unhide HRm) 4 (by omega)
  refine anyH_at #[true, true, true, true, true, true, true, true, true, true, true, false] (by kernel_rfl) ?_
  refine wpAnyH_ready (rs := [11]) (by kernel_rfl) (by simp) ?_
  refine AllReadyH.cons (o := { dst := none, op := _, type := _, pos := _, after := _, guard := _ }) rfl (fun Kk hKk => ?_) AllReadyH.nil
  go_simp
  refine hKk.out _ _ ?_ (fun hHeld => ?_)
  · (try dsimp only)
    exact ⟨At2.set5 hSu.1 (by omega) _ _ _ _ _, At4.set5 hSu.2 (by omega) _ _ _ _ _⟩
  clear hKk Kk
  refine wpAnyH_done (by kernel_rfl) ?_ _
  have HA5 := hide (at5_set5 (unhide HRm) (.int .i64 e) (.int .i64 f) (.bool n) (.int .u64 0) (.int .u64 R))
  have HB := hide (bset5 (c := b1) hTu (by omega) (.int .i64 e) (.int .i64 f) (.bool n) (.int .u64 0) (.int .u64 R))
  have HRm := hide ((unhide HRm).set5 (.int .i64 e) (.int .i64 f) (.bool n) (.int .u64 0) (.int .u64 R))
  have HS := hide hHeld
  clear hHeld hSu hTu k1 c0 c1 c2 c3 c4 f0 f1 f2 f3 f4
  generalize ((((wf.setCell ⟨b1, 0, none⟩ (.int .i64 e)).setCell ⟨b1, 1, none⟩ (.int .i64 f)).setCell ⟨b1, 2, none⟩ (.bool n)).setCell ⟨b1, 3, none⟩ (.int .u64 0)).setCell ⟨b1, 4, none⟩ (.int .u64 R) = wx at *
  obtain ⟨⟨s0, s1⟩, p0, p1, p2, p3⟩ := unhide HS
  go_wp2_with fail
  clear s0 s1 p0 p1 p2 p3
  go_ret2
  exact ⟨rfl, unhide HB⟩

set_option maxRecDepth 100000 in
set_option maxHeartbeats 4000000 in
theorem fin_z {e f P Q b K X S D R : Int} {n : Bool} (W : World) (hs : Sz e f P Q b) (g0 : 0 ≤ f) (g1 : f ≤ 63)
    (kp : IntKind.u64.wrap (P - 1) = P - 1) (ka : bits .and .u64 S (P - 1) = R) (kd : S / 2 ^ f.toNat = D) (d0 : (D == 0) = true) (z0 : (S == 0) = true) :
    Calls Tryd.prog 57 #[.agg #[.int .i64 e, .int .i64 f], .agg #[.bool n, .int .i64 K, .int .i64 X, .int .u64 S]] W fun r W' => r = .returned (.tuple #[.int .u64 0, .int .i64 2]) ∧ Below W.heap.size W W' := by
  go_enter Tryd.func57, Tryd.ntmps57
  go_wp2_with fail
  have hz0 : W.heap.size ≠ W.heap.size + 1 := by omega
  refine wp_region_held_drew (S := fun w' => (w'.cell? ⟨W.heap.size, 0, none⟩ = some (.int .i64 e) ∧ w'.cell? ⟨W.heap.size, 1, none⟩ = some (.int .i64 f)) ∧ (w'.cell? ⟨W.heap.size + 1, 0, none⟩ = some (.bool n) ∧ w'.cell? ⟨W.heap.size + 1, 1, none⟩ = some (.int .i64 K) ∧ w'.cell? ⟨W.heap.size + 1, 2, none⟩ = some (.int .i64 X) ∧ w'.cell? ⟨W.heap.size + 1, 3, none⟩ = some (.int .u64 S))) (by kernel_rfl) ?_ (fun hHeld => ?_)
  · (try dsimp only)
    simp [go_sem]
  refine wo_start (N := W.heap.size + 1 + 1) (i1 := 10) (d1 := 6) (v1 := #[.int .i64 0, .int .i64 0, .bool false, .int .u64 0, .int .u64 0]) (t1 := 59) (f := 1) (n := 10) (T := fun w' => Below W.heap.size W w') (by kernel_rfl) (by kernel_rfl) (fun _ _ _ _ _ h => h) ((stable_at2 _ _ _).and (stable_at4 _ _ _ _ _)) ?_ (stable_below W) hHeld ((below2 W _ _).drew) (by simp) ?_
  · intro a w K h
    unfold wpOp
    go_simp
    exact Or.inl h
  clear hHeld
  refine woA 0 7 ?_
  refine woA 1 8 ?_
  refine woA 2 9 ?_
  refine woA 3 10 ?_
  refine woA 4 11 ?_
  refine woA 5 12 ?_
  refine wo_call (c := 6) (o := { dst := some 13, op := _, type := _, pos := _, after := _, guard := _ }) rfl (by kernel_rfl) (by kernel_rfl) (fun u hSu hTu Kk hKk => ?_)
  go_simp
  refine (one_any hs _).mono ?_
  rintro _ wn ⟨rfl, hbl⟩
  have HTn := hide (bthen hTu hbl)
  clear hTu hSu
  (try go_wp2_with fail)
  refine hKk.out _ _ (fun w' => Below W.heap.size W w') (by assumption) (stable_below W) (unhide HTn) ?_
  clear hKk Kk HTn
  (try simp only [Act.put, List.setIfInBounds_toArray, List.set_cons_zero, List.set_cons_succ])
  refine woA 7 14 ?_
  refine woA 8 15 ?_
  refine woA 9 16 ?_
  refine wo_fin (by kernel_rfl) (fun wf b1 hSu hTu k1 => ?_)
  (try simp only [Act.put, List.setIfInBounds_toArray, List.set_cons_zero, List.set_cons_succ])
  unfold ptr
  have zb := k1.base
  have HRm := hide (fresh_room k1)
  obtain ⟨⟨v0, c0⟩, f0⟩ := (unhide HRm) 0 (by omega)
  obtain ⟨⟨v1, c1⟩, f1⟩ := (unhide HRm) 1 (by omega)
  obtain ⟨⟨v2, c2⟩, f2⟩ := (unhide HRm) 2 (by omega)
  obtain ⟨⟨v3, c3⟩, f3⟩ := (unhide HRm) 3 (by omega)
  obtain ⟨⟨v4, c4⟩, f4⟩ := (unhide HRm) 4 (by omega)
  refine anyH_at #[true, true, true, true, true, true, true, true, true, true, true, false] (by kernel_rfl) ?_
  refine wpAnyH_ready (rs := [11]) (by kernel_rfl) (by simp) ?_
  refine AllReadyH.cons (o := { dst := none, op := _, type := _, pos := _, after := _, guard := _ }) rfl (fun Kk hKk => ?_) AllReadyH.nil
  go_simp
  refine hKk.out _ _ ?_ (fun hHeld => ?_)
  · (try dsimp only)
    exact ⟨At2.set5 hSu.1 (by omega) _ _ _ _ _, At4.set5 hSu.2 (by omega) _ _ _ _ _⟩
  clear hKk Kk
  refine wpAnyH_done (by kernel_rfl) ?_ _
  have HA5 := hide (at5_set5 (unhide HRm) (.int .i64 e) (.int .i64 f) (.bool n) (.int .u64 0) (.int .u64 R))
  have HB := hide (bset5 (c := b1) hTu (by omega) (.int .i64 e) (.int .i64 f) (.bool n) (.int .u64 0) (.int .u64 R))
  have HRm := hide ((unhide HRm).set5 (.int .i64 e) (.int .i64 f) (.bool n) (.int .u64 0) (.int .u64 R))
  have HS := hide hHeld
  clear hHeld hSu hTu k1 c0 c1 c2 c3 c4 f0 f1 f2 f3 f4
  generalize ((((wf.setCell ⟨b1, 0, none⟩ (.int .i64 e)).setCell ⟨b1, 1, none⟩ (.int .i64 f)).setCell ⟨b1, 2, none⟩ (.bool n)).setCell ⟨b1, 3, none⟩ (.int .u64 0)).setCell ⟨b1, 4, none⟩ (.int .u64 R) = wx at *
  obtain ⟨⟨s0, s1⟩, p0, p1, p2, p3⟩ := unhide HS
  go_wp2_with fail
  clear s0 s1 p0 p1 p2 p3
  have HB := hide (unhide HB).drew
  have HA5 := hide ((unhide HA5).below ((Below.refl _ _).drew))
  have HRm := hide (unhide HRm).drew
  have HS := hide (((stable_at2 _ _ _).and (stable_at4 _ _ _ _ _)) _ _ (unhide HS) ((Below.refl _ _).drew))
  refine wp_region_held_drew (S := fun w' => (w'.cell? ⟨W.heap.size, 0, none⟩ = some (.int .i64 e) ∧ w'.cell? ⟨W.heap.size, 1, none⟩ = some (.int .i64 f)) ∧ (w'.cell? ⟨W.heap.size + 1, 0, none⟩ = some (.bool n) ∧ w'.cell? ⟨W.heap.size + 1, 1, none⟩ = some (.int .i64 K) ∧ w'.cell? ⟨W.heap.size + 1, 2, none⟩ = some (.int .i64 X) ∧ w'.cell? ⟨W.heap.size + 1, 3, none⟩ = some (.int .u64 S))) (by kernel_rfl) ?_ (fun hHeld => ?_)
  · (try dsimp only)
    exact unhide HS
  refine lst0 10 (by kernel_rfl) ?_
  refine tkA 0 24 1 ?_
  refine tkA 1 25 3 ?_
  refine tkA 2 26 7 ?_
  refine tkA 3 27 15 ?_
  refine tkU 4 28 31 ?_
  refine tkU 5 29 63 ?_
  refine tkU 6 30 127 ?_
  refine rdA 7 255 (fun Kk hKk => ?_)
  go_simp
  refine hKk.out _ _ ?_ (fun hHeld => ?_)
  · (try dsimp only)
    exact hHeld
  clear hKk Kk
  (try simp only [List.setIfInBounds_toArray, List.set_cons_zero, List.set_cons_succ])
  refine tkU 8 32 511 ?_
  refine tkA 9 33 1023 ?_
  refine wpAnyH_done (by kernel_rfl) ?_ _
  clear hHeld
  go_wp2_with fail
  go_ret2
  exact ⟨rfl, unhide HB⟩

set_option maxRecDepth 100000 in
set_option maxHeartbeats 4000000 in
theorem fin_x {e f P Q b K X S D R : Int} {n : Bool} (W : World) (hs : Sz e f P Q b) (g0 : 0 ≤ f) (g1 : f ≤ 63)
    (kp : IntKind.u64.wrap (P - 1) = P - 1) (ka : bits .and .u64 S (P - 1) = R) (kd : S / 2 ^ f.toNat = D) (d0 : (D == 0) = true) (z0 : (S == 0) = false) (x0 : (X != 1 - b - f) = true) :
    Calls Tryd.prog 57 #[.agg #[.int .i64 e, .int .i64 f], .agg #[.bool n, .int .i64 K, .int .i64 X, .int .u64 S]] W fun r W' => r = .returned (.tuple #[.int .u64 0, .int .i64 2]) ∧ Below W.heap.size W W' := by
  go_enter Tryd.func57, Tryd.ntmps57
  go_wp2_with fail
  have hz0 : W.heap.size ≠ W.heap.size + 1 := by omega
  refine wp_region_held_drew (S := fun w' => (w'.cell? ⟨W.heap.size, 0, none⟩ = some (.int .i64 e) ∧ w'.cell? ⟨W.heap.size, 1, none⟩ = some (.int .i64 f)) ∧ (w'.cell? ⟨W.heap.size + 1, 0, none⟩ = some (.bool n) ∧ w'.cell? ⟨W.heap.size + 1, 1, none⟩ = some (.int .i64 K) ∧ w'.cell? ⟨W.heap.size + 1, 2, none⟩ = some (.int .i64 X) ∧ w'.cell? ⟨W.heap.size + 1, 3, none⟩ = some (.int .u64 S))) (by kernel_rfl) ?_ (fun hHeld => ?_)
  · (try dsimp only)
    simp [go_sem]
  refine wo_start (N := W.heap.size + 1 + 1) (i1 := 10) (d1 := 6) (v1 := #[.int .i64 0, .int .i64 0, .bool false, .int .u64 0, .int .u64 0]) (t1 := 59) (f := 1) (n := 10) (T := fun w' => Below W.heap.size W w') (by kernel_rfl) (by kernel_rfl) (fun _ _ _ _ _ h => h) ((stable_at2 _ _ _).and (stable_at4 _ _ _ _ _)) ?_ (stable_below W) hHeld ((below2 W _ _).drew) (by simp) ?_
  · intro a w K h
    unfold wpOp
    go_simp
    exact Or.inl h
  clear hHeld
  refine woA 0 7 ?_
  refine woA 1 8 ?_
  refine woA 2 9 ?_
  refine woA 3 10 ?_
  refine woA 4 11 ?_
  refine woA 5 12 ?_
  refine wo_call (c := 6) (o := { dst := some 13, op := _, type := _, pos := _, after := _, guard := _ }) rfl (by kernel_rfl) (by kernel_rfl) (fun u hSu hTu Kk hKk => ?_)
  go_simp
  refine (one_any hs _).mono ?_
  rintro _ wn ⟨rfl, hbl⟩
  have HTn := hide (bthen hTu hbl)
  clear hTu hSu
  (try go_wp2_with fail)
  refine hKk.out _ _ (fun w' => Below W.heap.size W w') (by assumption) (stable_below W) (unhide HTn) ?_
  clear hKk Kk HTn
  (try simp only [Act.put, List.setIfInBounds_toArray, List.set_cons_zero, List.set_cons_succ])
  refine woA 7 14 ?_
  refine woA 8 15 ?_
  refine woA 9 16 ?_
  refine wo_fin (by kernel_rfl) (fun wf b1 hSu hTu k1 => ?_)
  (try simp only [Act.put, List.setIfInBounds_toArray, List.set_cons_zero, List.set_cons_succ])
  unfold ptr
  have zb := k1.base
  have HRm := hide (fresh_room k1)
  obtain ⟨⟨v0, c0⟩, f0⟩ := (unhide HRm) 0 (by omega)
  obtain ⟨⟨v1, c1⟩, f1⟩ := (unhide HRm) 1 (by omega)
  obtain ⟨⟨v2, c2⟩, f2⟩ := (unhide HRm) 2 (by omega)
  obtain ⟨⟨v3, c3⟩, f3⟩ := (unhide HRm) 3 (by omega)
  obtain ⟨⟨v4, c4⟩, f4⟩ := (unhide HRm) 4 (by omega)
  refine anyH_at #[true, true, true, true, true, true, true, true, true, true, true, false] (by kernel_rfl) ?_
  refine wpAnyH_ready (rs := [11]) (by kernel_rfl) (by simp) ?_
  refine AllReadyH.cons (o := { dst := none, op := _, type := _, pos := _, after := _, guard := _ }) rfl (fun Kk hKk => ?_) AllReadyH.nil
  go_simp
  refine hKk.out _ _ ?_ (fun hHeld => ?_)
  · (try dsimp only)
    exact ⟨At2.set5 hSu.1 (by omega) _ _ _ _ _, At4.set5 hSu.2 (by omega) _ _ _ _ _⟩
  clear hKk Kk
  refine wpAnyH_done (by kernel_rfl) ?_ _
  have HA5 := hide (at5_set5 (unhide HRm) (.int .i64 e) (.int .i64 f) (.bool n) (.int .u64 0) (.int .u64 R))
  have HB := hide (bset5 (c := b1) hTu (by omega) (.int .i64 e) (.int .i64 f) (.bool n) (.int .u64 0) (.int .u64 R))
  have HRm := hide ((unhide HRm).set5 (.int .i64 e) (.int .i64 f) (.bool n) (.int .u64 0) (.int .u64 R))
  have HS := hide hHeld
  clear hHeld hSu hTu k1 c0 c1 c2 c3 c4 f0 f1 f2 f3 f4
  generalize ((((wf.setCell ⟨b1, 0, none⟩ (.int .i64 e)).setCell ⟨b1, 1, none⟩ (.int .i64 f)).setCell ⟨b1, 2, none⟩ (.bool n)).setCell ⟨b1, 3, none⟩ (.int .u64 0)).setCell ⟨b1, 4, none⟩ (.int .u64 R) = wx at *
  obtain ⟨⟨s0, s1⟩, p0, p1, p2, p3⟩ := unhide HS
  go_wp2_with fail
  clear s0 s1 p0 p1 p2 p3
  have HB := hide (unhide HB).drew
  have HA5 := hide ((unhide HA5).below ((Below.refl _ _).drew))
  have HRm := hide (unhide HRm).drew
  have HS := hide (((stable_at2 _ _ _).and (stable_at4 _ _ _ _ _)) _ _ (unhide HS) ((Below.refl _ _).drew))
  refine wp_region_held_drew (S := fun w' => (w'.cell? ⟨W.heap.size, 0, none⟩ = some (.int .i64 e) ∧ w'.cell? ⟨W.heap.size, 1, none⟩ = some (.int .i64 f)) ∧ (w'.cell? ⟨W.heap.size + 1, 0, none⟩ = some (.bool n) ∧ w'.cell? ⟨W.heap.size + 1, 1, none⟩ = some (.int .i64 K) ∧ w'.cell? ⟨W.heap.size + 1, 2, none⟩ = some (.int .i64 X) ∧ w'.cell? ⟨W.heap.size + 1, 3, none⟩ = some (.int .u64 S))) (by kernel_rfl) ?_ (fun hHeld => ?_)
  · (try dsimp only)
    exact unhide HS
  refine lst0 10 (by kernel_rfl) ?_
  refine tkA 0 24 1 ?_
  refine tkA 1 25 3 ?_
  refine tkA 2 26 7 ?_
  refine tkA 3 27 15 ?_
  refine tkA 4 28 31 ?_
  refine tkA 5 29 63 ?_
  refine tkA 6 30 127 ?_
  refine rdA 7 255 (fun Kk hKk => ?_)
  go_simp
  refine (least_any hs _).mono ?_
  rintro _ wl ⟨rfl, hbl⟩
  have HB := hide (bthen (unhide HB) hbl)
  have HA5 := hide ((unhide HA5).below hbl)
  have HRm := hide ((unhide HRm).below hbl)
  have HS := hide (((stable_at2 _ _ _).and (stable_at4 _ _ _ _ _)) _ _ (unhide HS) hbl)
  clear hbl
  (try go_wp2_with fail)
  refine hKk.out _ _ ?_ (fun hHeld => ?_)
  · (try dsimp only)
    exact unhide HS
  clear hKk Kk
  (try simp only [List.setIfInBounds_toArray, List.set_cons_zero, List.set_cons_succ])
  refine tkA 8 32 511 ?_
  refine tkA 9 33 1023 ?_
  refine wpAnyH_done (by kernel_rfl) ?_ _
  clear hHeld
  go_wp2_with fail
  go_ret2
  exact ⟨rfl, unhide HB⟩

set_option maxRecDepth 100000 in
set_option maxHeartbeats 4000000 in
theorem fin_sub {e f P Q b K X S D R : Int} {n : Bool} (W : World) (hs : Sz e f P Q b) (g0 : 0 ≤ f) (g1 : f ≤ 63)
    (kp : IntKind.u64.wrap (P - 1) = P - 1) (ka : bits .and .u64 S (P - 1) = R) (kd : S / 2 ^ f.toNat = D) (d0 : (D == 0) = true) (z0 : (S == 0) = false) (x0 : (X != 1 - b - f) = false) {V : Int} (HC : Ct 43 #[.agg #[.int .i64 e, .int .i64 f, .bool n, .int .u64 0, .int .u64 R]] (.int .u64 V)) :
    Calls Tryd.prog 57 #[.agg #[.int .i64 e, .int .i64 f], .agg #[.bool n, .int .i64 K, .int .i64 X, .int .u64 S]] W fun r W' => r = .returned (.tuple #[.int .u64 V, .int .i64 0]) ∧ Below W.heap.size W W' := by
  go_enter Tryd.func57, Tryd.ntmps57
  go_wp2_with fail
  have hz0 : W.heap.size ≠ W.heap.size + 1 := by omega
  refine wp_region_held_drew (S := fun w' => (w'.cell? ⟨W.heap.size, 0, none⟩ = some (.int .i64 e) ∧ w'.cell? ⟨W.heap.size, 1, none⟩ = some (.int .i64 f)) ∧ (w'.cell? ⟨W.heap.size + 1, 0, none⟩ = some (.bool n) ∧ w'.cell? ⟨W.heap.size + 1, 1, none⟩ = some (.int .i64 K) ∧ w'.cell? ⟨W.heap.size + 1, 2, none⟩ = some (.int .i64 X) ∧ w'.cell? ⟨W.heap.size + 1, 3, none⟩ = some (.int .u64 S))) (by kernel_rfl) ?_ (fun hHeld => ?_)
  · (try dsimp only)
    simp [go_sem]
  refine wo_start (N := W.heap.size + 1 + 1) (i1 := 10) (d1 := 6) (v1 := #[.int .i64 0, .int .i64 0, .bool false, .int .u64 0, .int .u64 0]) (t1 := 59) (f := 1) (n := 10) (T := fun w' => Below W.heap.size W w') (by kernel_rfl) (by kernel_rfl) (fun _ _ _ _ _ h => h) ((stable_at2 _ _ _).and (stable_at4 _ _ _ _ _)) ?_ (stable_below W) hHeld ((below2 W _ _).drew) (by simp) ?_
  · intro a w K h
    unfold wpOp
    go_simp
    exact Or.inl h
  clear hHeld
  refine woA 0 7 ?_
  refine woA 1 8 ?_
  refine woA 2 9 ?_
  refine woA 3 10 ?_
  refine woA 4 11 ?_
  refine woA 5 12 ?_
  refine wo_call (c := 6) (o := { dst := some 13, op := _, type := _, pos := _, after := _, guard := _ }) rfl (by kernel_rfl) (by kernel_rfl) (fun u hSu hTu Kk hKk => ?_)
  go_simp
  refine (one_any hs _).mono ?_
  rintro _ wn ⟨rfl, hbl⟩
  have HTn := hide (bthen hTu hbl)
  clear hTu hSu
  (try go_wp2_with fail)
  refine hKk.out _ _ (fun w' => Below W.heap.size W w') (by assumption) (stable_below W) (unhide HTn) ?_
  clear hKk Kk HTn
  (try simp only [Act.put, List.setIfInBounds_toArray, List.set_cons_zero, List.set_cons_succ])
  refine woA 7 14 ?_
  refine woA 8 15 ?_
  refine woA 9 16 ?_
  refine wo_fin (by kernel_rfl) (fun wf b1 hSu hTu k1 => ?_)
  (try simp only [Act.put, List.setIfInBounds_toArray, List.set_cons_zero, List.set_cons_succ])
  unfold ptr
  have zb := k1.base
  have HRm := hide (fresh_room k1)
  obtain ⟨⟨v0, c0⟩, f0⟩ := (unhide HRm) 0 (by omega)
  obtain ⟨⟨v1, c1⟩, f1⟩ := (unhide HRm) 1 (by omega)
  obtain ⟨⟨v2, c2⟩, f2⟩ := (unhide HRm) 2 (by omega)
  obtain ⟨⟨v3, c3⟩, f3⟩ := (unhide HRm) 3 (by omega)
  obtain ⟨⟨v4, c4⟩, f4⟩ := (unhide HRm) 4 (by omega)
  refine anyH_at #[true, true, true, true, true, true, true, true, true, true, true, false] (by kernel_rfl) ?_
  refine wpAnyH_ready (rs := [11]) (by kernel_rfl) (by simp) ?_
  refine AllReadyH.cons (o := { dst := none, op := _, type := _, pos := _, after := _, guard := _ }) rfl (fun Kk hKk => ?_) AllReadyH.nil
  go_simp
  refine hKk.out _ _ ?_ (fun hHeld => ?_)
  · (try dsimp only)
    exact ⟨At2.set5 hSu.1 (by omega) _ _ _ _ _, At4.set5 hSu.2 (by omega) _ _ _ _ _⟩
  clear hKk Kk
  refine wpAnyH_done (by kernel_rfl) ?_ _
  have HA5 := hide (at5_set5 (unhide HRm) (.int .i64 e) (.int .i64 f) (.bool n) (.int .u64 0) (.int .u64 R))
  have HB := hide (bset5 (c := b1) hTu (by omega) (.int .i64 e) (.int .i64 f) (.bool n) (.int .u64 0) (.int .u64 R))
  have HRm := hide ((unhide HRm).set5 (.int .i64 e) (.int .i64 f) (.bool n) (.int .u64 0) (.int .u64 R))
  have HS := hide hHeld
  clear hHeld hSu hTu k1 c0 c1 c2 c3 c4 f0 f1 f2 f3 f4
  generalize ((((wf.setCell ⟨b1, 0, none⟩ (.int .i64 e)).setCell ⟨b1, 1, none⟩ (.int .i64 f)).setCell ⟨b1, 2, none⟩ (.bool n)).setCell ⟨b1, 3, none⟩ (.int .u64 0)).setCell ⟨b1, 4, none⟩ (.int .u64 R) = wx at *
  obtain ⟨⟨s0, s1⟩, p0, p1, p2, p3⟩ := unhide HS
  go_wp2_with fail
  clear s0 s1 p0 p1 p2 p3
  have HB := hide (unhide HB).drew
  have HA5 := hide ((unhide HA5).below ((Below.refl _ _).drew))
  have HRm := hide (unhide HRm).drew
  have HS := hide (((stable_at2 _ _ _).and (stable_at4 _ _ _ _ _)) _ _ (unhide HS) ((Below.refl _ _).drew))
  refine wp_region_held_drew (S := fun w' => (w'.cell? ⟨W.heap.size, 0, none⟩ = some (.int .i64 e) ∧ w'.cell? ⟨W.heap.size, 1, none⟩ = some (.int .i64 f)) ∧ (w'.cell? ⟨W.heap.size + 1, 0, none⟩ = some (.bool n) ∧ w'.cell? ⟨W.heap.size + 1, 1, none⟩ = some (.int .i64 K) ∧ w'.cell? ⟨W.heap.size + 1, 2, none⟩ = some (.int .i64 X) ∧ w'.cell? ⟨W.heap.size + 1, 3, none⟩ = some (.int .u64 S))) (by kernel_rfl) ?_ (fun hHeld => ?_)
  · (try dsimp only)
    exact unhide HS
  refine lst0 10 (by kernel_rfl) ?_
  refine tkA 0 24 1 ?_
  refine tkA 1 25 3 ?_
  refine tkA 2 26 7 ?_
  refine tkA 3 27 15 ?_
  refine tkA 4 28 31 ?_
  refine tkA 5 29 63 ?_
  refine tkA 6 30 127 ?_
  refine rdA 7 255 (fun Kk hKk => ?_)
  go_simp
  refine (least_any hs _).mono ?_
  rintro _ wl ⟨rfl, hbl⟩
  have HB := hide (bthen (unhide HB) hbl)
  have HA5 := hide ((unhide HA5).below hbl)
  have HRm := hide ((unhide HRm).below hbl)
  have HS := hide (((stable_at2 _ _ _).and (stable_at4 _ _ _ _ _)) _ _ (unhide HS) hbl)
  clear hbl
  (try go_wp2_with fail)
  refine hKk.out _ _ ?_ (fun hHeld => ?_)
  · (try dsimp only)
    exact unhide HS
  clear hKk Kk
  (try simp only [List.setIfInBounds_toArray, List.set_cons_zero, List.set_cons_succ])
  refine tkA 8 32 511 ?_
  refine tkA 9 33 1023 ?_
  refine wpAnyH_done (by kernel_rfl) ?_ _
  clear hHeld
  obtain ⟨a0, a1, a2, a3, a4⟩ := unhide HA5
  go_wp2_with fail
  refine (unhide HC _).mono ?_
  rintro _ wz ⟨rfl, hbl⟩
  have HB := hide (bthen (unhide HB) hbl)
  go_wp2_with fail
  go_ret2
  exact ⟨rfl, unhide HB⟩

set_option maxRecDepth 100000 in
set_option maxHeartbeats 4000000 in
theorem fin_lo {e f P Q b K X S D R : Int} {n : Bool} (W : World) (hs : Sz e f P Q b) (g0 : 0 ≤ f) (g1 : f ≤ 63)
    (kp : IntKind.u64.wrap (P - 1) = P - 1) (ka : bits .and .u64 S (P - 1) = R) (kd : S / 2 ^ f.toNat = D) (d0 : (D == 0) = false) (d1 : (D == 1) = true) (x0 : decide (X < 1 - b - f) = true) :
    Calls Tryd.prog 57 #[.agg #[.int .i64 e, .int .i64 f], .agg #[.bool n, .int .i64 K, .int .i64 X, .int .u64 S]] W fun r W' => r = .returned (.tuple #[.int .u64 0, .int .i64 2]) ∧ Below W.heap.size W W' := by
  go_enter Tryd.func57, Tryd.ntmps57
  go_wp2_with fail
  have hz0 : W.heap.size ≠ W.heap.size + 1 := by omega
  refine wp_region_held_drew (S := fun w' => (w'.cell? ⟨W.heap.size, 0, none⟩ = some (.int .i64 e) ∧ w'.cell? ⟨W.heap.size, 1, none⟩ = some (.int .i64 f)) ∧ (w'.cell? ⟨W.heap.size + 1, 0, none⟩ = some (.bool n) ∧ w'.cell? ⟨W.heap.size + 1, 1, none⟩ = some (.int .i64 K) ∧ w'.cell? ⟨W.heap.size + 1, 2, none⟩ = some (.int .i64 X) ∧ w'.cell? ⟨W.heap.size + 1, 3, none⟩ = some (.int .u64 S))) (by kernel_rfl) ?_ (fun hHeld => ?_)
  · (try dsimp only)
    simp [go_sem]
  refine wo_start (N := W.heap.size + 1 + 1) (i1 := 10) (d1 := 6) (v1 := #[.int .i64 0, .int .i64 0, .bool false, .int .u64 0, .int .u64 0]) (t1 := 59) (f := 1) (n := 10) (T := fun w' => Below W.heap.size W w') (by kernel_rfl) (by kernel_rfl) (fun _ _ _ _ _ h => h) ((stable_at2 _ _ _).and (stable_at4 _ _ _ _ _)) ?_ (stable_below W) hHeld ((below2 W _ _).drew) (by simp) ?_
  · intro a w K h
    unfold wpOp
    go_simp
    exact Or.inl h
  clear hHeld
  refine woA 0 7 ?_
  refine woA 1 8 ?_
  refine woA 2 9 ?_
  refine woA 3 10 ?_
  refine woA 4 11 ?_
  refine woA 5 12 ?_
  refine wo_call (c := 6) (o := { dst := some 13, op := _, type := _, pos := _, after := _, guard := _ }) rfl (by kernel_rfl) (by kernel_rfl) (fun u hSu hTu Kk hKk => ?_)
  go_simp
  refine (one_any hs _).mono ?_
  rintro _ wn ⟨rfl, hbl⟩
  have HTn := hide (bthen hTu hbl)
  clear hTu hSu
  (try go_wp2_with fail)
  refine hKk.out _ _ (fun w' => Below W.heap.size W w') (by assumption) (stable_below W) (unhide HTn) ?_
  clear hKk Kk HTn
  (try simp only [Act.put, List.setIfInBounds_toArray, List.set_cons_zero, List.set_cons_succ])
  refine woA 7 14 ?_
  refine woA 8 15 ?_
  refine woA 9 16 ?_
  refine wo_fin (by kernel_rfl) (fun wf b1 hSu hTu k1 => ?_)
  (try simp only [Act.put, List.setIfInBounds_toArray, List.set_cons_zero, List.set_cons_succ])
  unfold ptr
  have zb := k1.base
  have HRm := hide (fresh_room k1)
  obtain ⟨⟨v0, c0⟩, f0⟩ := (unhide HRm) 0 (by omega)
  obtain ⟨⟨v1, c1⟩, f1⟩ := (unhide HRm) 1 (by omega)
  obtain ⟨⟨v2, c2⟩, f2⟩ := (unhide HRm) 2 (by omega)
  obtain ⟨⟨v3, c3⟩, f3⟩ := (unhide HRm) 3 (by omega)
  obtain ⟨⟨v4, c4⟩, f4⟩ := (unhide HRm) 4 (by omega)
  refine anyH_at #[true, true, true, true, true, true, true, true, true, true, true, false] (by kernel_rfl) ?_
  refine wpAnyH_ready (rs := [11]) (by kernel_rfl) (by simp) ?_
  refine AllReadyH.cons (o := { dst := none, op := _, type := _, pos := _, after := _, guard := _ }) rfl (fun Kk hKk => ?_) AllReadyH.nil
  go_simp
  refine hKk.out _ _ ?_ (fun hHeld => ?_)
  · (try dsimp only)
    exact ⟨At2.set5 hSu.1 (by omega) _ _ _ _ _, At4.set5 hSu.2 (by omega) _ _ _ _ _⟩
  clear hKk Kk
  refine wpAnyH_done (by kernel_rfl) ?_ _
  have HA5 := hide (at5_set5 (unhide HRm) (.int .i64 e) (.int .i64 f) (.bool n) (.int .u64 0) (.int .u64 R))
  have HB := hide (bset5 (c := b1) hTu (by omega) (.int .i64 e) (.int .i64 f) (.bool n) (.int .u64 0) (.int .u64 R))
  have HRm := hide ((unhide HRm).set5 (.int .i64 e) (.int .i64 f) (.bool n) (.int .u64 0) (.int .u64 R))
  have HS := hide hHeld
  clear hHeld hSu hTu k1 c0 c1 c2 c3 c4 f0 f1 f2 f3 f4
  generalize ((((wf.setCell ⟨b1, 0, none⟩ (.int .i64 e)).setCell ⟨b1, 1, none⟩ (.int .i64 f)).setCell ⟨b1, 2, none⟩ (.bool n)).setCell ⟨b1, 3, none⟩ (.int .u64 0)).setCell ⟨b1, 4, none⟩ (.int .u64 R) = wx at *
  obtain ⟨⟨s0, s1⟩, p0, p1, p2, p3⟩ := unhide HS
  go_wp2_with fail
  clear s0 s1 p0 p1 p2 p3
  have HB := hide (unhide HB).drew
  have HA5 := hide ((unhide HA5).below ((Below.refl _ _).drew))
  have HRm := hide (unhide HRm).drew
  have HS := hide (((stable_at2 _ _ _).and (stable_at4 _ _ _ _ _)) _ _ (unhide HS) ((Below.refl _ _).drew))
  refine wp_region_held_drew (S := fun w' => (w'.cell? ⟨W.heap.size, 0, none⟩ = some (.int .i64 e) ∧ w'.cell? ⟨W.heap.size, 1, none⟩ = some (.int .i64 f)) ∧ (w'.cell? ⟨W.heap.size + 1, 0, none⟩ = some (.bool n) ∧ w'.cell? ⟨W.heap.size + 1, 1, none⟩ = some (.int .i64 K) ∧ w'.cell? ⟨W.heap.size + 1, 2, none⟩ = some (.int .i64 X) ∧ w'.cell? ⟨W.heap.size + 1, 3, none⟩ = some (.int .u64 S))) (by kernel_rfl) ?_ (fun hHeld => ?_)
  · (try dsimp only)
    exact unhide HS
  refine lst0 12 (by kernel_rfl) ?_
  refine tkA 0 36 1 ?_
  refine tkA 1 37 3 ?_
  refine tkA 2 38 7 ?_
  refine rdA 3 15 (fun Kk hKk => ?_)
  go_simp
  refine (least_any hs _).mono ?_
  rintro _ wl ⟨rfl, hbl⟩
  have HB := hide (bthen (unhide HB) hbl)
  have HA5 := hide ((unhide HA5).below hbl)
  have HRm := hide ((unhide HRm).below hbl)
  have HS := hide (((stable_at2 _ _ _).and (stable_at4 _ _ _ _ _)) _ _ (unhide HS) hbl)
  clear hbl
  (try go_wp2_with fail)
  refine hKk.out _ _ ?_ (fun hHeld => ?_)
  · (try dsimp only)
    exact unhide HS
  clear hKk Kk
  (try simp only [List.setIfInBounds_toArray, List.set_cons_zero, List.set_cons_succ])
  refine tkA 4 40 31 ?_
  refine tkA 5 41 63 ?_
  refine tkU 6 42 127 ?_
  refine tkU 7 43 255 ?_
  refine tkU 8 44 511 ?_
  refine rdA 9 1023 (fun Kk hKk => ?_)
  go_simp
  refine hKk.out _ _ ?_ (fun hHeld => ?_)
  · (try dsimp only)
    exact hHeld
  clear hKk Kk
  (try simp only [List.setIfInBounds_toArray, List.set_cons_zero, List.set_cons_succ])
  refine tkU 10 46 2047 ?_
  refine tkA 11 47 4095 ?_
  refine wpAnyH_done (by kernel_rfl) ?_ _
  clear hHeld
  go_wp2_with fail
  go_ret2
  exact ⟨rfl, unhide HB⟩

set_option maxRecDepth 100000 in
set_option maxHeartbeats 4000000 in
theorem fin_hi {e f P Q b K X S D R : Int} {n : Bool} (W : World) (hs : Sz e f P Q b) (g0 : 0 ≤ f) (g1 : f ≤ 63)
    (kp : IntKind.u64.wrap (P - 1) = P - 1) (ka : bits .and .u64 S (P - 1) = R) (kd : S / 2 ^ f.toNat = D) (d0 : (D == 0) = false) (d1 : (D == 1) = true) (x0 : decide (X < 1 - b - f) = false) (x1 : decide (Q - 2 - b - f < X) = true) :
    Calls Tryd.prog 57 #[.agg #[.int .i64 e, .int .i64 f], .agg #[.bool n, .int .i64 K, .int .i64 X, .int .u64 S]] W fun r W' => r = .returned (.tuple #[.int .u64 0, .int .i64 2]) ∧ Below W.heap.size W W' := by
  go_enter Tryd.func57, Tryd.ntmps57
  go_wp2_with fail
  have hz0 : W.heap.size ≠ W.heap.size + 1 := by omega
  refine wp_region_held_drew (S := fun w' => (w'.cell? ⟨W.heap.size, 0, none⟩ = some (.int .i64 e) ∧ w'.cell? ⟨W.heap.size, 1, none⟩ = some (.int .i64 f)) ∧ (w'.cell? ⟨W.heap.size + 1, 0, none⟩ = some (.bool n) ∧ w'.cell? ⟨W.heap.size + 1, 1, none⟩ = some (.int .i64 K) ∧ w'.cell? ⟨W.heap.size + 1, 2, none⟩ = some (.int .i64 X) ∧ w'.cell? ⟨W.heap.size + 1, 3, none⟩ = some (.int .u64 S))) (by kernel_rfl) ?_ (fun hHeld => ?_)
  · (try dsimp only)
    simp [go_sem]
  refine wo_start (N := W.heap.size + 1 + 1) (i1 := 10) (d1 := 6) (v1 := #[.int .i64 0, .int .i64 0, .bool false, .int .u64 0, .int .u64 0]) (t1 := 59) (f := 1) (n := 10) (T := fun w' => Below W.heap.size W w') (by kernel_rfl) (by kernel_rfl) (fun _ _ _ _ _ h => h) ((stable_at2 _ _ _).and (stable_at4 _ _ _ _ _)) ?_ (stable_below W) hHeld ((below2 W _ _).drew) (by simp) ?_
  · intro a w K h
    unfold wpOp
    go_simp
    exact Or.inl h
  clear hHeld
  refine woA 0 7 ?_
  refine woA 1 8 ?_
  refine woA 2 9 ?_
  refine woA 3 10 ?_
  refine woA 4 11 ?_
  refine woA 5 12 ?_
  refine wo_call (c := 6) (o := { dst := some 13, op := _, type := _, pos := _, after := _, guard := _ }) rfl (by kernel_rfl) (by kernel_rfl) (fun u hSu hTu Kk hKk => ?_)
  go_simp
  refine (one_any hs _).mono ?_
  rintro _ wn ⟨rfl, hbl⟩
  have HTn := hide (bthen hTu hbl)
  clear hTu hSu
  (try go_wp2_with fail)
  refine hKk.out _ _ (fun w' => Below W.heap.size W w') (by assumption) (stable_below W) (unhide HTn) ?_
  clear hKk Kk HTn
  (try simp only [Act.put, List.setIfInBounds_toArray, List.set_cons_zero, List.set_cons_succ])
  refine woA 7 14 ?_
  refine woA 8 15 ?_
  refine woA 9 16 ?_
  refine wo_fin (by kernel_rfl) (fun wf b1 hSu hTu k1 => ?_)
  (try simp only [Act.put, List.setIfInBounds_toArray, List.set_cons_zero, List.set_cons_succ])
  unfold ptr
  have zb := k1.base
  have HRm := hide (fresh_room k1)
  obtain ⟨⟨v0, c0⟩, f0⟩ := (unhide HRm) 0 (by omega)
  obtain ⟨⟨v1, c1⟩, f1⟩ := (unhide HRm) 1 (by omega)
  obtain ⟨⟨v2, c2⟩, f2⟩ := (unhide HRm) 2 (by omega)
  obtain ⟨⟨v3, c3⟩, f3⟩ := (unhide HRm) 3 (by omega)
  obtain ⟨⟨v4, c4⟩, f4⟩ := (unhide HRm) 4 (by omega)
  refine anyH_at #[true, true, true, true, true, true, true, true, true, true, true, false] (by kernel_rfl) ?_
  refine wpAnyH_ready (rs := [11]) (by kernel_rfl) (by simp) ?_
  refine AllReadyH.cons (o := { dst := none, op := _, type := _, pos := _, after := _, guard := _ }) rfl (fun Kk hKk => ?_) AllReadyH.nil
  go_simp
  refine hKk.out _ _ ?_ (fun hHeld => ?_)
  · (try dsimp only)
    exact ⟨At2.set5 hSu.1 (by omega) _ _ _ _ _, At4.set5 hSu.2 (by omega) _ _ _ _ _⟩
  clear hKk Kk
  refine wpAnyH_done (by kernel_rfl) ?_ _
  have HA5 := hide (at5_set5 (unhide HRm) (.int .i64 e) (.int .i64 f) (.bool n) (.int .u64 0) (.int .u64 R))
  have HB := hide (bset5 (c := b1) hTu (by omega) (.int .i64 e) (.int .i64 f) (.bool n) (.int .u64 0) (.int .u64 R))
  have HRm := hide ((unhide HRm).set5 (.int .i64 e) (.int .i64 f) (.bool n) (.int .u64 0) (.int .u64 R))
  have HS := hide hHeld
  clear hHeld hSu hTu k1 c0 c1 c2 c3 c4 f0 f1 f2 f3 f4
  generalize ((((wf.setCell ⟨b1, 0, none⟩ (.int .i64 e)).setCell ⟨b1, 1, none⟩ (.int .i64 f)).setCell ⟨b1, 2, none⟩ (.bool n)).setCell ⟨b1, 3, none⟩ (.int .u64 0)).setCell ⟨b1, 4, none⟩ (.int .u64 R) = wx at *
  obtain ⟨⟨s0, s1⟩, p0, p1, p2, p3⟩ := unhide HS
  go_wp2_with fail
  clear s0 s1 p0 p1 p2 p3
  have HB := hide (unhide HB).drew
  have HA5 := hide ((unhide HA5).below ((Below.refl _ _).drew))
  have HRm := hide (unhide HRm).drew
  have HS := hide (((stable_at2 _ _ _).and (stable_at4 _ _ _ _ _)) _ _ (unhide HS) ((Below.refl _ _).drew))
  refine wp_region_held_drew (S := fun w' => (w'.cell? ⟨W.heap.size, 0, none⟩ = some (.int .i64 e) ∧ w'.cell? ⟨W.heap.size, 1, none⟩ = some (.int .i64 f)) ∧ (w'.cell? ⟨W.heap.size + 1, 0, none⟩ = some (.bool n) ∧ w'.cell? ⟨W.heap.size + 1, 1, none⟩ = some (.int .i64 K) ∧ w'.cell? ⟨W.heap.size + 1, 2, none⟩ = some (.int .i64 X) ∧ w'.cell? ⟨W.heap.size + 1, 3, none⟩ = some (.int .u64 S))) (by kernel_rfl) ?_ (fun hHeld => ?_)
  · (try dsimp only)
    exact unhide HS
  refine lst0 12 (by kernel_rfl) ?_
  refine tkA 0 36 1 ?_
  refine tkA 1 37 3 ?_
  refine tkA 2 38 7 ?_
  refine rdA 3 15 (fun Kk hKk => ?_)
  go_simp
  refine (least_any hs _).mono ?_
  rintro _ wl ⟨rfl, hbl⟩
  have HB := hide (bthen (unhide HB) hbl)
  have HA5 := hide ((unhide HA5).below hbl)
  have HRm := hide ((unhide HRm).below hbl)
  have HS := hide (((stable_at2 _ _ _).and (stable_at4 _ _ _ _ _)) _ _ (unhide HS) hbl)
  clear hbl
  (try go_wp2_with fail)
  refine hKk.out _ _ ?_ (fun hHeld => ?_)
  · (try dsimp only)
    exact unhide HS
  clear hKk Kk
  (try simp only [List.setIfInBounds_toArray, List.set_cons_zero, List.set_cons_succ])
  refine tkA 4 40 31 ?_
  refine tkA 5 41 63 ?_
  refine tkA 6 42 127 ?_
  refine tkA 7 43 255 ?_
  refine tkA 8 44 511 ?_
  refine rdA 9 1023 (fun Kk hKk => ?_)
  go_simp
  refine (most_any hs _).mono ?_
  rintro _ wm ⟨rfl, hbl⟩
  have HB := hide (bthen (unhide HB) hbl)
  have HA5 := hide ((unhide HA5).below hbl)
  have HRm := hide ((unhide HRm).below hbl)
  have HS := hide (((stable_at2 _ _ _).and (stable_at4 _ _ _ _ _)) _ _ (unhide HS) hbl)
  clear hbl
  (try go_wp2_with fail)
  refine hKk.out _ _ ?_ (fun hHeld => ?_)
  · (try dsimp only)
    exact unhide HS
  clear hKk Kk
  (try simp only [List.setIfInBounds_toArray, List.set_cons_zero, List.set_cons_succ])
  refine tkA 10 46 2047 ?_
  refine tkA 11 47 4095 ?_
  refine wpAnyH_done (by kernel_rfl) ?_ _
  clear hHeld
  go_wp2_with fail
  go_ret2
  exact ⟨rfl, unhide HB⟩

set_option maxRecDepth 100000 in
set_option maxHeartbeats 4000000 in
theorem fin_nor {e f P Q b K X S D R : Int} {n : Bool} (W : World) (hs : Sz e f P Q b) (g0 : 0 ≤ f) (g1 : f ≤ 63)
    (kp : IntKind.u64.wrap (P - 1) = P - 1) (ka : bits .and .u64 S (P - 1) = R) (kd : S / 2 ^ f.toNat = D) (d0 : (D == 0) = false) (d1 : (D == 1) = true) (x0 : decide (X < 1 - b - f) = false) (x1 : decide (Q - 2 - b - f < X) = false) {E V G : Int} (HP : Ct 35 #[.agg #[.int .i64 e, .int .i64 f], .int .i64 0] (.int .i64 G)) (k0 : IntKind.i64.wrap (X - G) = E) (k1 : IntKind.u64.wrap E = E) (HC : Ct 43 #[.agg #[.int .i64 e, .int .i64 f, .bool n, .int .u64 E, .int .u64 R]] (.int .u64 V)) :
    Calls Tryd.prog 57 #[.agg #[.int .i64 e, .int .i64 f], .agg #[.bool n, .int .i64 K, .int .i64 X, .int .u64 S]] W fun r W' => r = .returned (.tuple #[.int .u64 V, .int .i64 0]) ∧ Below W.heap.size W W' := by
  go_enter Tryd.func57, Tryd.ntmps57
  go_wp2_with fail
  have hz0 : W.heap.size ≠ W.heap.size + 1 := by omega
  refine wp_region_held_drew (S := fun w' => (w'.cell? ⟨W.heap.size, 0, none⟩ = some (.int .i64 e) ∧ w'.cell? ⟨W.heap.size, 1, none⟩ = some (.int .i64 f)) ∧ (w'.cell? ⟨W.heap.size + 1, 0, none⟩ = some (.bool n) ∧ w'.cell? ⟨W.heap.size + 1, 1, none⟩ = some (.int .i64 K) ∧ w'.cell? ⟨W.heap.size + 1, 2, none⟩ = some (.int .i64 X) ∧ w'.cell? ⟨W.heap.size + 1, 3, none⟩ = some (.int .u64 S))) (by kernel_rfl) ?_ (fun hHeld => ?_)
  · (try dsimp only)
    simp [go_sem]
  refine wo_start (N := W.heap.size + 1 + 1) (i1 := 10) (d1 := 6) (v1 := #[.int .i64 0, .int .i64 0, .bool false, .int .u64 0, .int .u64 0]) (t1 := 59) (f := 1) (n := 10) (T := fun w' => Below W.heap.size W w') (by kernel_rfl) (by kernel_rfl) (fun _ _ _ _ _ h => h) ((stable_at2 _ _ _).and (stable_at4 _ _ _ _ _)) ?_ (stable_below W) hHeld ((below2 W _ _).drew) (by simp) ?_
  · intro a w K h
    unfold wpOp
    go_simp
    exact Or.inl h
  clear hHeld
  refine woA 0 7 ?_
  refine woA 1 8 ?_
  refine woA 2 9 ?_
  refine woA 3 10 ?_
  refine woA 4 11 ?_
  refine woA 5 12 ?_
  refine wo_call (c := 6) (o := { dst := some 13, op := _, type := _, pos := _, after := _, guard := _ }) rfl (by kernel_rfl) (by kernel_rfl) (fun u hSu hTu Kk hKk => ?_)
  go_simp
  refine (one_any hs _).mono ?_
  rintro _ wn ⟨rfl, hbl⟩
  have HTn := hide (bthen hTu hbl)
  clear hTu hSu
  (try go_wp2_with fail)
  refine hKk.out _ _ (fun w' => Below W.heap.size W w') (by assumption) (stable_below W) (unhide HTn) ?_
  clear hKk Kk HTn
  (try simp only [Act.put, List.setIfInBounds_toArray, List.set_cons_zero, List.set_cons_succ])
  refine woA 7 14 ?_
  refine woA 8 15 ?_
  refine woA 9 16 ?_
  refine wo_fin (by kernel_rfl) (fun wf b1 hSu hTu k1 => ?_)
  (try simp only [Act.put, List.setIfInBounds_toArray, List.set_cons_zero, List.set_cons_succ])
  unfold ptr
  have zb := k1.base
  have HRm := hide (fresh_room k1)
  obtain ⟨⟨v0, c0⟩, f0⟩ := (unhide HRm) 0 (by omega)
  obtain ⟨⟨v1, c1⟩, f1⟩ := (unhide HRm) 1 (by omega)
  obtain ⟨⟨v2, c2⟩, f2⟩ := (unhide HRm) 2 (by omega)
  obtain ⟨⟨v3, c3⟩, f3⟩ := (unhide HRm) 3 (by omega)
  obtain ⟨⟨v4, c4⟩, f4⟩ := (unhide HRm) 4 (by omega)
  refine anyH_at #[true, true, true, true, true, true, true, true, true, true, true, false] (by kernel_rfl) ?_
  refine wpAnyH_ready (rs := [11]) (by kernel_rfl) (by simp) ?_
  refine AllReadyH.cons (o := { dst := none, op := _, type := _, pos := _, after := _, guard := _ }) rfl (fun Kk hKk => ?_) AllReadyH.nil
  go_simp
  refine hKk.out _ _ ?_ (fun hHeld => ?_)
  · (try dsimp only)
    exact ⟨At2.set5 hSu.1 (by omega) _ _ _ _ _, At4.set5 hSu.2 (by omega) _ _ _ _ _⟩
  clear hKk Kk
  refine wpAnyH_done (by kernel_rfl) ?_ _
  have HA5 := hide (at5_set5 (unhide HRm) (.int .i64 e) (.int .i64 f) (.bool n) (.int .u64 0) (.int .u64 R))
  have HB := hide (bset5 (c := b1) hTu (by omega) (.int .i64 e) (.int .i64 f) (.bool n) (.int .u64 0) (.int .u64 R))
  have HRm := hide ((unhide HRm).set5 (.int .i64 e) (.int .i64 f) (.bool n) (.int .u64 0) (.int .u64 R))
  have HS := hide hHeld
  clear hHeld hSu hTu k1 c0 c1 c2 c3 c4 f0 f1 f2 f3 f4
  generalize ((((wf.setCell ⟨b1, 0, none⟩ (.int .i64 e)).setCell ⟨b1, 1, none⟩ (.int .i64 f)).setCell ⟨b1, 2, none⟩ (.bool n)).setCell ⟨b1, 3, none⟩ (.int .u64 0)).setCell ⟨b1, 4, none⟩ (.int .u64 R) = wx at *
  obtain ⟨⟨s0, s1⟩, p0, p1, p2, p3⟩ := unhide HS
  go_wp2_with fail
  clear s0 s1 p0 p1 p2 p3
  have HB := hide (unhide HB).drew
  have HA5 := hide ((unhide HA5).below ((Below.refl _ _).drew))
  have HRm := hide (unhide HRm).drew
  have HS := hide (((stable_at2 _ _ _).and (stable_at4 _ _ _ _ _)) _ _ (unhide HS) ((Below.refl _ _).drew))
  refine wp_region_held_drew (S := fun w' => (w'.cell? ⟨W.heap.size, 0, none⟩ = some (.int .i64 e) ∧ w'.cell? ⟨W.heap.size, 1, none⟩ = some (.int .i64 f)) ∧ (w'.cell? ⟨W.heap.size + 1, 0, none⟩ = some (.bool n) ∧ w'.cell? ⟨W.heap.size + 1, 1, none⟩ = some (.int .i64 K) ∧ w'.cell? ⟨W.heap.size + 1, 2, none⟩ = some (.int .i64 X) ∧ w'.cell? ⟨W.heap.size + 1, 3, none⟩ = some (.int .u64 S))) (by kernel_rfl) ?_ (fun hHeld => ?_)
  · (try dsimp only)
    exact unhide HS
  refine lst0 12 (by kernel_rfl) ?_
  refine tkA 0 36 1 ?_
  refine tkA 1 37 3 ?_
  refine tkA 2 38 7 ?_
  refine rdA 3 15 (fun Kk hKk => ?_)
  go_simp
  refine (least_any hs _).mono ?_
  rintro _ wl ⟨rfl, hbl⟩
  have HB := hide (bthen (unhide HB) hbl)
  have HA5 := hide ((unhide HA5).below hbl)
  have HRm := hide ((unhide HRm).below hbl)
  have HS := hide (((stable_at2 _ _ _).and (stable_at4 _ _ _ _ _)) _ _ (unhide HS) hbl)
  clear hbl
  (try go_wp2_with fail)
  refine hKk.out _ _ ?_ (fun hHeld => ?_)
  · (try dsimp only)
    exact unhide HS
  clear hKk Kk
  (try simp only [List.setIfInBounds_toArray, List.set_cons_zero, List.set_cons_succ])
  refine tkA 4 40 31 ?_
  refine tkA 5 41 63 ?_
  refine tkA 6 42 127 ?_
  refine tkA 7 43 255 ?_
  refine tkA 8 44 511 ?_
  refine rdA 9 1023 (fun Kk hKk => ?_)
  go_simp
  refine (most_any hs _).mono ?_
  rintro _ wm ⟨rfl, hbl⟩
  have HB := hide (bthen (unhide HB) hbl)
  have HA5 := hide ((unhide HA5).below hbl)
  have HRm := hide ((unhide HRm).below hbl)
  have HS := hide (((stable_at2 _ _ _).and (stable_at4 _ _ _ _ _)) _ _ (unhide HS) hbl)
  clear hbl
  (try go_wp2_with fail)
  refine hKk.out _ _ ?_ (fun hHeld => ?_)
  · (try dsimp only)
    exact unhide HS
  clear hKk Kk
  (try simp only [List.setIfInBounds_toArray, List.set_cons_zero, List.set_cons_succ])
  refine tkA 10 46 2047 ?_
  refine tkA 11 47 4095 ?_
  refine wpAnyH_done (by kernel_rfl) ?_ _
  clear hHeld
  go_wp2_with fail
  have HB := hide (unhide HB).drew
  have HA5 := hide ((unhide HA5).below ((Below.refl _ _).drew))
  have HRm := hide (unhide HRm).drew
  have HS := hide (((stable_at2 _ _ _).and (stable_at4 _ _ _ _ _)) _ _ (unhide HS) ((Below.refl _ _).drew))
  refine wp_region_held_drew (S := fun w' => ((w'.cell? ⟨W.heap.size, 0, none⟩ = some (.int .i64 e) ∧ w'.cell? ⟨W.heap.size, 1, none⟩ = some (.int .i64 f)) ∧ (w'.cell? ⟨W.heap.size + 1, 0, none⟩ = some (.bool n) ∧ w'.cell? ⟨W.heap.size + 1, 1, none⟩ = some (.int .i64 K) ∧ w'.cell? ⟨W.heap.size + 1, 2, none⟩ = some (.int .i64 X) ∧ w'.cell? ⟨W.heap.size + 1, 3, none⟩ = some (.int .u64 S))) ∧ Room b1 5 w') (by kernel_rfl) ?_ (fun hHeld => ?_)
  · (try dsimp only)
    exact ⟨unhide HS, unhide HRm⟩
  refine lst0 8 (by kernel_rfl) ?_
  refine tkA 0 48 1 ?_
  refine tkA 1 49 3 ?_
  refine tkA 2 50 7 ?_
  refine rdA 3 15 (fun Kk hKk => ?_)
  go_simp
  refine (unhide HP _).mono ?_
  rintro _ wp ⟨rfl, hbl⟩
  have HB := hide (bthen (unhide HB) hbl)
  have HA5 := hide ((unhide HA5).below hbl)
  have HRm := hide ((unhide HRm).below hbl)
  have HS := hide (((stable_at2 _ _ _).and (stable_at4 _ _ _ _ _)) _ _ (unhide HS) hbl)
  clear hbl
  (try go_wp2_with fail)
  refine hKk.out _ _ ?_ (fun hHeld => ?_)
  · (try dsimp only)
    exact ⟨unhide HS, unhide HRm⟩
  clear hKk Kk
  (try simp only [List.setIfInBounds_toArray, List.set_cons_zero, List.set_cons_succ])
  refine tkA 4 52 31 ?_
  refine tkA 5 53 63 ?_
  refine tkA 6 54 127 ?_
  refine rdA 7 255 (fun Kk hKk => ?_)
  obtain ⟨⟨v3, c3⟩, f3⟩ := hHeld.2 3 (by omega)
  go_simp
  refine hKk.out _ _ ?_ (fun hHeld => ?_)
  · (try dsimp only)
    exact ⟨⟨At2.set (unhide HS).1 (by omega) _ _, At4.set (unhide HS).2 (by omega) _ _⟩, hHeld.2.set _ _⟩
  clear hKk Kk
  (try simp only [List.setIfInBounds_toArray, List.set_cons_zero, List.set_cons_succ])
  refine wpAnyH_done (by kernel_rfl) ?_ _
  clear hHeld
  have HA5 := hide (at5_set3 (unhide HA5) (.int .u64 E))
  have HB := hide (bset (unhide HB) b1 (by omega) 3 (.int .u64 E))
  obtain ⟨a0, a1, a2, a3, a4⟩ := unhide HA5
  go_wp2_with fail
  refine (unhide HC _).mono ?_
  rintro _ wz ⟨rfl, hbl⟩
  have HB := hide (bthen (unhide HB) hbl)
  go_wp2_with fail
  go_ret2
  exact ⟨rfl, unhide HB⟩

end Go.Proofs.YtmbkpmcmhmldgaaDoor
namespace Go.Proofs.YtmbkpmcmhmldgaaDoor
open Go.RowKit
open Go.Proofs.YtmbkpmcmhmldgaaDoor.W

theorem lstm {P : Program} {ops : Array Oper} {Q : Exit → Act → World → Prop} {md : Region.Mode} {S : World → Prop} (n m : Nat) {fuel : Nat} {listed : Array Bool} {a : Act} {w : World} (h : listed = lst n m) (k : wpAnyH P md ops Q S fuel (lst n m) a w) : wpAnyH P md ops Q S fuel listed a w := h ▸ k
theorem fresh_room2 {N b : Nat} {v0 v1 : Value} {w : World} (h : Fresh N #[v0, v1] b w) : Room b 2 w := fun o ho => by
  refine ⟨?_, h.thawed o⟩
  match o, ho with
  | 0, _ => exact ⟨_, h.cell 0 _ rfl⟩
  | 1, _ => exact ⟨_, h.cell 1 _ rfl⟩
theorem at2_set2 {b : Nat} {w : World} (h : Room b 2 w) (v0 v1 : Value) : At2 b v0 v1 ((w.setCell ⟨b, 0, none⟩ v0).setCell ⟨b, 1, none⟩ v1) := by
  obtain ⟨⟨u0, h0⟩, _⟩ := h 0 (by omega)
  obtain ⟨⟨u1, h1⟩, _⟩ := (h.set 0 v0) 1 (by omega)
  exact ⟨set_off _ (by omega) (World.cell?_setCell_same _ _ _ h0), World.cell?_setCell_same _ _ _ h1⟩
theorem bset2 {a b : World} {c : Nat} (h : Below a.heap.size a b) (hc : a.heap.size ≤ c) (v0 v1 : Value) : Below a.heap.size a ((b.setCell ⟨c, 0, none⟩ v0).setCell ⟨c, 1, none⟩ v1) := bset (bset h _ hc _ _) _ hc _ _
theorem At4.set2 {b c : Nat} {x y z u : Value} {w : World} (h : At4 b x y z u w) (hc : b ≠ c) (v0 v1 : Value) : At4 b x y z u ((w.setCell ⟨c, 0, none⟩ v0).setCell ⟨c, 1, none⟩ v1) := (h.set hc _ _).set hc _ _
theorem Room.off {b c n : Nat} {w : World} (h : Room b n w) (hc : b ≠ c) (o' : Nat) (v : Value) : Room b n (w.setCell ⟨c, o', none⟩ v) := fun o ho => by
  obtain ⟨⟨u, h1⟩, h2⟩ := h o ho
  exact ⟨⟨u, keep_set c o' v hc h1⟩, by rw [frozen_set]; exact h2⟩
end Go.Proofs.YtmbkpmcmhmldgaaDoor
namespace Go.Proofs.YtmbkpmcmhmldgaaDoor
open Go.RowKit
open Go.Proofs.YtmbkpmcmhmldgaaDoor.W

set_option maxHeartbeats 4000000 in
set_option maxRecDepth 100000 in
theorem amount_hi {K X S h l h' l' h'' l'' E : Int} {n t : Bool} (W : World) (HO : Ct 21 #[.int .u64 S] (.agg #[.int .u64 h, .int .u64 l])) (g : 64 < X) (HL : Ct 39 #[.agg #[.int .u64 h, .int .u64 l], .int .i64 64] (.agg #[.int .u64 h', .int .u64 l'])) (kx : IntKind.i64.wrap (-X) = E) (HR : Ct 40 #[.agg #[.int .u64 h', .int .u64 l'], .int .i64 E] (.tuple #[.agg #[.int .u64 h'', .int .u64 l''], .bool t])) :
    Calls Tryd.prog 19 #[.agg #[.bool n, .int .i64 K, .int .i64 X, .int .u64 S]] W fun r W' => r = .returned (.agg #[.int .u64 h'', .int .u64 l'']) ∧ Below W.heap.size W W' := by
  go_enter Tryd.func19, Tryd.ntmps19
  go_wp2_with fail
  have HB := hide (below2 W (.cells #[.bool n, .int .i64 K, .int .i64 X, .int .u64 S] 40) (.cells #[.int .u64 0, .int .u64 0] 45)).drew
  have HA := hide ((at4_new2a W (.bool n) (.int .i64 K) (.int .i64 X) (.int .u64 S) 40 (.cells #[.int .u64 0, .int .u64 0] 45)).below ((Below.refl _ _).drew))
  have HR2 : Hid (Room (W.heap.size + 1) 2 ((W.alloc (.cells #[.bool n, .int .i64 K, .int .i64 X, .int .u64 S] 40)).alloc (.cells #[.int .u64 0, .int .u64 0] 45)).drew) := by
    intro o ho
    match o, ho with
    | 0, _ | 1, _ => simp [go_sem]
  refine wp_region_held_drew (S := fun w' => (w'.cell? ⟨W.heap.size, 0, none⟩ = some (.bool n) ∧ w'.cell? ⟨W.heap.size, 1, none⟩ = some (.int .i64 K) ∧ w'.cell? ⟨W.heap.size, 2, none⟩ = some (.int .i64 X) ∧ w'.cell? ⟨W.heap.size, 3, none⟩ = some (.int .u64 S)) ∧ Room (W.heap.size + 1) 2 w') (by kernel_rfl) ?_ (fun hHeld => ?_)
  · (try dsimp only)
    exact ⟨unhide HA, unhide HR2⟩
  refine wo_start (N := W.heap.size + 2) (i1 := 7) (d1 := 3) (v1 := #[.int .u64 0, .int .u64 0]) (t1 := 45) (f := 1) (n := 7) (T := fun w' => Below W.heap.size W w') (by kernel_rfl) (by kernel_rfl) (fun _ _ _ _ _ h => h) (fun _ _ h hb => ⟨At4.below h.1 hb, Room.below h.2 hb⟩) ?_ (stable_below W) hHeld (unhide HB) (by simp) ?_
  · intro a w K h
    unfold wpOp
    go_simp
    exact Or.inl h
  clear hHeld
  refine woA 0 6 ?_
  refine woA 1 7 ?_
  refine woA 3 9 ?_
  refine woA 4 10 ?_
  refine woA 5 11 ?_
  refine wo_call (c := 2) (o := { dst := some 8, op := _, type := _, pos := _, after := _, guard := _ }) rfl (by kernel_rfl) (by kernel_rfl) (fun u hSu hTu Kk hKk => ?_)
  go_simp
  refine (unhide HO _).mono ?_
  rintro _ wn ⟨rfl, hbl⟩
  have HTn := hide (bthen hTu hbl)
  clear hTu hSu
  (try go_wp2_with fail)
  refine hKk.out _ _ (fun w' => Below W.heap.size W w') (by assumption) (stable_below W) (unhide HTn) ?_
  clear hKk Kk HTn
  (try simp only [Act.put, List.setIfInBounds_toArray, List.set_cons_zero, List.set_cons_succ])
  refine wo_call (c := 6) (o := { dst := some 12, op := _, type := _, pos := _, after := _, guard := _ }) rfl (by kernel_rfl) (by kernel_rfl) (fun u hSu hTu Kk hKk => ?_)
  go_simp
  refine (unhide HL _).mono ?_
  rintro _ wn ⟨rfl, hbl⟩
  have HTn := hide (bthen hTu hbl)
  clear hTu hSu
  (try go_wp2_with fail)
  refine hKk.out _ _ (fun w' => Below W.heap.size W w') (by assumption) (stable_below W) (unhide HTn) ?_
  clear hKk Kk HTn
  (try simp only [Act.put, List.setIfInBounds_toArray, List.set_cons_zero, List.set_cons_succ])
  refine wo_fin (by kernel_rfl) (fun wf b1 hSu hTu k1 => ?_)
  (try simp only [Act.put, List.setIfInBounds_toArray, List.set_cons_zero, List.set_cons_succ])
  unfold ptr
  have zb := k1.base
  have HRm := hide (fresh_room2 k1)
  obtain ⟨⟨v0, c0⟩, f0⟩ := (unhide HRm) 0 (by omega)
  obtain ⟨⟨v1, c1⟩, f1⟩ := (unhide HRm) 1 (by omega)
  refine lstm 9 255 (by kernel_rfl) ?_
  refine rdA 8 511 (fun Kk hKk => ?_)
  go_simp
  refine hKk.out _ _ ?_ (fun hHeld => ?_)
  · (try dsimp only)
    exact ⟨At4.set2 hSu.1 (by omega) _ _, (hSu.2.off (by omega) _ _).off (by omega) _ _⟩
  clear hKk Kk
  (try simp only [Act.put, List.setIfInBounds_toArray, List.set_cons_zero, List.set_cons_succ])
  refine wpAnyH_done (by kernel_rfl) ?_ _
  have HB := hide (bset2 (c := b1) hTu (by omega) (.int .u64 h') (.int .u64 l'))
  have H2 := hide (at2_set2 (unhide HRm) (.int .u64 h') (.int .u64 l'))
  have HA := hide hHeld.1
  have HR2 := hide hHeld.2
  clear hHeld hSu hTu k1 c0 c1 f0 f1 HRm
  generalize (wf.setCell ⟨b1, 0, none⟩ (.int .u64 h')).setCell ⟨b1, 1, none⟩ (.int .u64 l') = wx at *
  obtain ⟨c0, c1⟩ := unhide H2
  obtain ⟨d0, d1, d2, d3⟩ := unhide HA
  go_wp2_with fail
  clear c0 c1 d0 d1 d2 d3
  refine (unhide HR _).mono ?_
  rintro _ wy ⟨rfl, hb⟩
  have HB := hide (bthen (unhide HB) hb)
  have HR2 := hide ((unhide HR2).below hb)
  clear hb H2 HA
  obtain ⟨⟨u0, c0⟩, f0⟩ := (unhide HR2) 0 (by omega)
  obtain ⟨⟨u1, c1⟩, f1⟩ := (unhide HR2) 1 (by omega)
  have zy := lt_of_cell c0
  go_wp2
  clear c0 c1
  have HB := hide (balloc (bset2 (unhide HB) (show W.heap.size ≤ W.heap.size + 1 by omega) (.int .u64 h'') (.int .u64 l'')) (.cells #[.int .u64 h'', .int .u64 l''] 45))
  have H2 := hide ((at2_set2 (unhide HR2) (.int .u64 h'') (.int .u64 l'')).below (below1 _ (.cells #[.int .u64 h'', .int .u64 l''] 45)))
  generalize ((wy.setCell ⟨W.heap.size + 1, 0, none⟩ (.int .u64 h'')).setCell ⟨W.heap.size + 1, 1, none⟩ (.int .u64 l'')).alloc (.cells #[.int .u64 h'', .int .u64 l''] 45) = wz at *
  obtain ⟨c0, c1⟩ := unhide H2
  exact bodyPost_ret (v := .agg #[.int .u64 h'', .int .u64 l'']) (by simp [results, Tryd.results19, go_sem, c0, c1]) rfl ⟨rfl, unhide HB⟩
set_option maxHeartbeats 4000000 in
set_option maxRecDepth 100000 in
theorem amount_lo {K X S h l h' l' h'' l'' E : Int} {n t : Bool} (W : World) (HO : Ct 21 #[.int .u64 S] (.agg #[.int .u64 h, .int .u64 l])) (g : ¬ 64 < X) (HL : Ct 39 #[.agg #[.int .u64 h, .int .u64 l], .int .i64 X] (.agg #[.int .u64 h', .int .u64 l'])) (kx : IntKind.i64.wrap (-X) = E) (HR : Ct 40 #[.agg #[.int .u64 h', .int .u64 l'], .int .i64 E] (.tuple #[.agg #[.int .u64 h'', .int .u64 l''], .bool t])) :
    Calls Tryd.prog 19 #[.agg #[.bool n, .int .i64 K, .int .i64 X, .int .u64 S]] W fun r W' => r = .returned (.agg #[.int .u64 h'', .int .u64 l'']) ∧ Below W.heap.size W W' := by
  go_enter Tryd.func19, Tryd.ntmps19
  go_wp2_with fail
  have HB := hide (below2 W (.cells #[.bool n, .int .i64 K, .int .i64 X, .int .u64 S] 40) (.cells #[.int .u64 0, .int .u64 0] 45)).drew
  have HA := hide ((at4_new2a W (.bool n) (.int .i64 K) (.int .i64 X) (.int .u64 S) 40 (.cells #[.int .u64 0, .int .u64 0] 45)).below ((Below.refl _ _).drew))
  have HR2 : Hid (Room (W.heap.size + 1) 2 ((W.alloc (.cells #[.bool n, .int .i64 K, .int .i64 X, .int .u64 S] 40)).alloc (.cells #[.int .u64 0, .int .u64 0] 45)).drew) := by
    intro o ho
    match o, ho with
    | 0, _ | 1, _ => simp [go_sem]
  refine wp_region_held_drew (S := fun w' => (w'.cell? ⟨W.heap.size, 0, none⟩ = some (.bool n) ∧ w'.cell? ⟨W.heap.size, 1, none⟩ = some (.int .i64 K) ∧ w'.cell? ⟨W.heap.size, 2, none⟩ = some (.int .i64 X) ∧ w'.cell? ⟨W.heap.size, 3, none⟩ = some (.int .u64 S)) ∧ Room (W.heap.size + 1) 2 w') (by kernel_rfl) ?_ (fun hHeld => ?_)
  · (try dsimp only)
    exact ⟨unhide HA, unhide HR2⟩
  refine wo_start (N := W.heap.size + 2) (i1 := 7) (d1 := 3) (v1 := #[.int .u64 0, .int .u64 0]) (t1 := 45) (f := 1) (n := 7) (T := fun w' => Below W.heap.size W w') (by kernel_rfl) (by kernel_rfl) (fun _ _ _ _ _ h => h) (fun _ _ h hb => ⟨At4.below h.1 hb, Room.below h.2 hb⟩) ?_ (stable_below W) hHeld (unhide HB) (by simp) ?_
  · intro a w K h
    unfold wpOp
    go_simp
    exact Or.inl h
  clear hHeld
  refine woA 0 6 ?_
  refine woA 1 7 ?_
  refine woA 3 9 ?_
  refine woA 4 10 ?_
  refine woA 5 11 ?_
  refine wo_call (c := 2) (o := { dst := some 8, op := _, type := _, pos := _, after := _, guard := _ }) rfl (by kernel_rfl) (by kernel_rfl) (fun u hSu hTu Kk hKk => ?_)
  go_simp
  refine (unhide HO _).mono ?_
  rintro _ wn ⟨rfl, hbl⟩
  have HTn := hide (bthen hTu hbl)
  clear hTu hSu
  (try go_wp2_with fail)
  refine hKk.out _ _ (fun w' => Below W.heap.size W w') (by assumption) (stable_below W) (unhide HTn) ?_
  clear hKk Kk HTn
  (try simp only [Act.put, List.setIfInBounds_toArray, List.set_cons_zero, List.set_cons_succ])
  refine wo_call (c := 6) (o := { dst := some 12, op := _, type := _, pos := _, after := _, guard := _ }) rfl (by kernel_rfl) (by kernel_rfl) (fun u hSu hTu Kk hKk => ?_)
  go_simp
  refine (unhide HL _).mono ?_
  rintro _ wn ⟨rfl, hbl⟩
  have HTn := hide (bthen hTu hbl)
  clear hTu hSu
  (try go_wp2_with fail)
  refine hKk.out _ _ (fun w' => Below W.heap.size W w') (by assumption) (stable_below W) (unhide HTn) ?_
  clear hKk Kk HTn
  (try simp only [Act.put, List.setIfInBounds_toArray, List.set_cons_zero, List.set_cons_succ])
  refine wo_fin (by kernel_rfl) (fun wf b1 hSu hTu k1 => ?_)
  (try simp only [Act.put, List.setIfInBounds_toArray, List.set_cons_zero, List.set_cons_succ])
  unfold ptr
  have zb := k1.base
  have HRm := hide (fresh_room2 k1)
  obtain ⟨⟨v0, c0⟩, f0⟩ := (unhide HRm) 0 (by omega)
  obtain ⟨⟨v1, c1⟩, f1⟩ := (unhide HRm) 1 (by omega)
  refine lstm 9 255 (by kernel_rfl) ?_
  refine rdA 8 511 (fun Kk hKk => ?_)
  go_simp
  refine hKk.out _ _ ?_ (fun hHeld => ?_)
  · (try dsimp only)
    exact ⟨At4.set2 hSu.1 (by omega) _ _, (hSu.2.off (by omega) _ _).off (by omega) _ _⟩
  clear hKk Kk
  (try simp only [Act.put, List.setIfInBounds_toArray, List.set_cons_zero, List.set_cons_succ])
  refine wpAnyH_done (by kernel_rfl) ?_ _
  have HB := hide (bset2 (c := b1) hTu (by omega) (.int .u64 h') (.int .u64 l'))
  have H2 := hide (at2_set2 (unhide HRm) (.int .u64 h') (.int .u64 l'))
  have HA := hide hHeld.1
  have HR2 := hide hHeld.2
  clear hHeld hSu hTu k1 c0 c1 f0 f1 HRm
  generalize (wf.setCell ⟨b1, 0, none⟩ (.int .u64 h')).setCell ⟨b1, 1, none⟩ (.int .u64 l') = wx at *
  obtain ⟨c0, c1⟩ := unhide H2
  obtain ⟨d0, d1, d2, d3⟩ := unhide HA
  go_wp2_with fail
  clear c0 c1 d0 d1 d2 d3
  refine (unhide HR _).mono ?_
  rintro _ wy ⟨rfl, hb⟩
  have HB := hide (bthen (unhide HB) hb)
  have HR2 := hide ((unhide HR2).below hb)
  clear hb H2 HA
  obtain ⟨⟨u0, c0⟩, f0⟩ := (unhide HR2) 0 (by omega)
  obtain ⟨⟨u1, c1⟩, f1⟩ := (unhide HR2) 1 (by omega)
  have zy := lt_of_cell c0
  go_wp2
  clear c0 c1
  have HB := hide (balloc (bset2 (unhide HB) (show W.heap.size ≤ W.heap.size + 1 by omega) (.int .u64 h'') (.int .u64 l'')) (.cells #[.int .u64 h'', .int .u64 l''] 45))
  have H2 := hide ((at2_set2 (unhide HR2) (.int .u64 h'') (.int .u64 l'')).below (below1 _ (.cells #[.int .u64 h'', .int .u64 l''] 45)))
  generalize ((wy.setCell ⟨W.heap.size + 1, 0, none⟩ (.int .u64 h'')).setCell ⟨W.heap.size + 1, 1, none⟩ (.int .u64 l'')).alloc (.cells #[.int .u64 h'', .int .u64 l''] 45) = wz at *
  obtain ⟨c0, c1⟩ := unhide H2
  exact bodyPost_ret (v := .agg #[.int .u64 h'', .int .u64 l'']) (by simp [results, Tryd.results19, go_sem, c0, c1]) rfl ⟨rfl, unhide HB⟩
end Go.Proofs.YtmbkpmcmhmldgaaDoor
