/- Contracts of package round's floatsOf and Pack. -/
import Derived.Test.YtpbgpdmffejdgaaGreatDoorNearest
namespace Go.Proofs.YtpbgpdmffejdgaaGreatDoor
open Go.RowKit

theorem set_same9 {b o : Nat} {w : World} (h : Room b 9 w) (ho : o < 9) (v : Value) : (w.setCell ⟨b, o, none⟩ v).cell? ⟨b, o, none⟩ = some v := by
  obtain ⟨⟨u, h1⟩, _⟩ := h o ho
  exact World.cell?_setCell_same _ _ _ h1
theorem at9_set9 {b : Nat} {w : World} (h : Room b 9 w) (v0 v1 v2 v3 v4 v5 v6 v7 v8 : Value) :
    At9 b v0 v1 v2 v3 v4 v5 v6 v7 v8 (((((((((w.setCell ⟨b, 0, none⟩ v0).setCell ⟨b, 1, none⟩ v1).setCell ⟨b, 2, none⟩ v2).setCell ⟨b, 3, none⟩ v3).setCell ⟨b, 4, none⟩ v4).setCell ⟨b, 5, none⟩ v5).setCell ⟨b, 6, none⟩ v6).setCell ⟨b, 7, none⟩ v7).setCell ⟨b, 8, none⟩ v8) :=
  ⟨set_off _ (by omega) (set_off _ (by omega) (set_off _ (by omega) (set_off _ (by omega) (set_off _ (by omega) (set_off _ (by omega) (set_off _ (by omega) (set_off _ (by omega) (set_same9 h (by omega) _)))))))),
   set_off _ (by omega) (set_off _ (by omega) (set_off _ (by omega) (set_off _ (by omega) (set_off _ (by omega) (set_off _ (by omega) (set_off _ (by omega) (set_same9 (h.set _ _) (by omega) _))))))),
   set_off _ (by omega) (set_off _ (by omega) (set_off _ (by omega) (set_off _ (by omega) (set_off _ (by omega) (set_off _ (by omega) (set_same9 ((h.set _ _).set _ _) (by omega) _)))))),
   set_off _ (by omega) (set_off _ (by omega) (set_off _ (by omega) (set_off _ (by omega) (set_off _ (by omega) (set_same9 (((h.set _ _).set _ _).set _ _) (by omega) _))))),
   set_off _ (by omega) (set_off _ (by omega) (set_off _ (by omega) (set_off _ (by omega) (set_same9 ((((h.set _ _).set _ _).set _ _).set _ _) (by omega) _)))),
   set_off _ (by omega) (set_off _ (by omega) (set_off _ (by omega) (set_same9 (((((h.set _ _).set _ _).set _ _).set _ _).set _ _) (by omega) _))),
   set_off _ (by omega) (set_off _ (by omega) (set_same9 ((((((h.set _ _).set _ _).set _ _).set _ _).set _ _).set _ _) (by omega) _)),
   set_off _ (by omega) (set_same9 (((((((h.set _ _).set _ _).set _ _).set _ _).set _ _).set _ _).set _ _) (by omega) _),
   set_same9 ((((((((h.set _ _).set _ _).set _ _).set _ _).set _ _).set _ _).set _ _).set _ _) (by omega) _⟩
theorem bset9 {a b : World} {c : Nat} (h : Below a.heap.size a b) (hc : a.heap.size ≤ c) (v0 v1 v2 v3 v4 v5 v6 v7 v8 : Value) :
    Below a.heap.size a (((((((((b.setCell ⟨c, 0, none⟩ v0).setCell ⟨c, 1, none⟩ v1).setCell ⟨c, 2, none⟩ v2).setCell ⟨c, 3, none⟩ v3).setCell ⟨c, 4, none⟩ v4).setCell ⟨c, 5, none⟩ v5).setCell ⟨c, 6, none⟩ v6).setCell ⟨c, 7, none⟩ v7).setCell ⟨c, 8, none⟩ v8) :=
  (bset (bset (bset (bset (bset (bset (bset (bset (bset h _ hc _ _) _ hc _ _) _ hc _ _) _ hc _ _) _ hc _ _) _ hc _ _) _ hc _ _) _ hc _ _) _ hc _ _)
theorem At2.set9 {b c : Nat} {x y : Value} {w : World} (h : At2 b x y w) (hc : b ≠ c) (v0 v1 v2 v3 v4 v5 v6 v7 v8 : Value) :
    At2 b x y (((((((((w.setCell ⟨c, 0, none⟩ v0).setCell ⟨c, 1, none⟩ v1).setCell ⟨c, 2, none⟩ v2).setCell ⟨c, 3, none⟩ v3).setCell ⟨c, 4, none⟩ v4).setCell ⟨c, 5, none⟩ v5).setCell ⟨c, 6, none⟩ v6).setCell ⟨c, 7, none⟩ v7).setCell ⟨c, 8, none⟩ v8) :=
  (((((((((h.set hc _ _).set hc _ _).set hc _ _).set hc _ _).set hc _ _).set hc _ _).set hc _ _).set hc _ _).set hc _ _)
theorem fresh_room9 {N b : Nat} {v0 v1 v2 v3 v4 v5 v6 v7 v8 : Value} {w : World} (h : Fresh N #[v0, v1, v2, v3, v4, v5, v6, v7, v8] b w) : Room b 9 w := fun o ho => by
  refine ⟨?_, h.thawed o⟩
  match o, ho with
  | 0, _ => exact ⟨_, h.cell 0 _ rfl⟩
  | 1, _ => exact ⟨_, h.cell 1 _ rfl⟩
  | 2, _ => exact ⟨_, h.cell 2 _ rfl⟩
  | 3, _ => exact ⟨_, h.cell 3 _ rfl⟩
  | 4, _ => exact ⟨_, h.cell 4 _ rfl⟩
  | 5, _ => exact ⟨_, h.cell 5 _ rfl⟩
  | 6, _ => exact ⟨_, h.cell 6 _ rfl⟩
  | 7, _ => exact ⟨_, h.cell 7 _ rfl⟩
  | 8, _ => exact ⟨_, h.cell 8 _ rfl⟩

set_option maxRecDepth 100000 in
set_option maxHeartbeats 2000000 in
theorem floatsOf_l {w e f X1 S1 K1 X2 S2 K2 Mx : Int} {n1 n2 : Bool} (W : World) (HF : Ct 23 #[.int .i64 w] (.tuple #[.int .i64 e, .int .i64 f]))
    (H1 : Ct 15 #[.int .i64 w, .int .u64 1] (.agg #[.bool n1, .int .i64 K1, .int .i64 X1, .int .u64 S1])) (HM : Ct 55 #[.int .i64 w, .bool false] (.int .u64 Mx))
    (H2 : Ct 15 #[.int .i64 w, .int .u64 Mx] (.agg #[.bool n2, .int .i64 K2, .int .i64 X2, .int .u64 S2])) :
    Calls Tryz.prog 237 #[.int .i64 w] W fun r W' => r = .returned (.agg #[.int .i64 w, .int .i64 f, .int .i64 X1, .int .i64 X2]) ∧ Below W.heap.size W W' := by
  have f1 : ∀ W : World, (Instr.field 37 (.agg #[.bool n1, .int .i64 K1, .int .i64 X1, .int .u64 S1]) 2).run Tryz.prog W = .ok (.int .i64 X1) W := fun _ => by kernel_rfl
  have f2 : ∀ W : World, (Instr.field 37 (.agg #[.bool n2, .int .i64 K2, .int .i64 X2, .int .u64 S2]) 2).run Tryz.prog W = .ok (.int .i64 X2) W := fun _ => by kernel_rfl
  have HR : Hid (Room W.heap.size 4 (W.alloc (.cells #[.int .i64 0, .int .i64 0, .int .i64 0, .int .i64 0] 199))) := room4 (Below.refl _ _)
  have HB := hide (below1 W (.cells #[.int .i64 0, .int .i64 0, .int .i64 0, .int .i64 0] 199))
  go_enter Tryz.func237, Tryz.ntmps237
  go_wp2_with fail
  refine (unhide HF _).mono ?_
  rintro _ w1 ⟨rfl, hbl⟩
  have HB := hide (bthen (unhide HB) hbl)
  have HR := hide ((unhide HR).below hbl)
  clear hbl
  go_wp2_with fail
  refine (unhide H1 _).mono ?_
  rintro _ w2 ⟨rfl, hbl⟩
  have HB := hide (bthen (unhide HB) hbl)
  have HR := hide ((unhide HR).below hbl)
  clear hbl
  go_wp2_with fail
  refine (unhide HM _).mono ?_
  rintro _ w3 ⟨rfl, hbl⟩
  have HB := hide (bthen (unhide HB) hbl)
  have HR := hide ((unhide HR).below hbl)
  clear hbl
  go_wp2_with fail
  refine (unhide H2 _).mono ?_
  rintro _ w4 ⟨rfl, hbl⟩
  have HB := hide (bthen (unhide HB) hbl)
  have HR := hide ((unhide HR).below hbl)
  clear hbl
  obtain ⟨⟨v0, c0⟩, r0⟩ := (unhide HR) 0 (by omega)
  obtain ⟨⟨v1, c1⟩, r1⟩ := (unhide HR) 1 (by omega)
  obtain ⟨⟨v2, c2⟩, r2⟩ := (unhide HR) 2 (by omega)
  obtain ⟨⟨v3, c3⟩, r3⟩ := (unhide HR) 3 (by omega)
  go_wp2_with fail
  exact bodyPost_ret (v := .agg #[.int .i64 w, .int .i64 f, .int .i64 X1, .int .i64 X2]) (by simp (maxDischargeDepth := 8) [results, Tryz.results237, go_sem, c0, c1, c2, c3]) rfl ⟨rfl, bset4 (unhide HB) _ _ _ _⟩

set_option maxRecDepth 100000 in
set_option maxHeartbeats 4000000 in
theorem pack_m {w h l X f L M V : Int} {n m : Bool} (W : World) (xa : ¬ X < -4096) (xb : ¬ 4096 < X) (HO : Ct 237 #[.int .i64 w] (.agg #[.int .i64 w, .int .i64 f, .int .i64 L, .int .i64 M]))
    (HN : Ct 238 #[.agg #[.bool n, .int .u64 h, .int .u64 l, .int .i64 X, .bool m, .int .i64 w, .int .i64 f, .int .i64 L, .int .i64 M]] (.int .u64 V)) :
    Calls Tryz.prog 160 #[.int .i64 w, .bool n, .agg #[.int .u64 h, .int .u64 l], .int .i64 X, .bool m] W fun r W' => r = .returned (.int .u64 V) ∧ Below W.heap.size W W' := by
  go_enter Tryz.func160, Tryz.ntmps160
  go_wp2_with fail
  refine wp_region_held_drew (S := fun w' => w'.cell? ⟨W.heap.size, 0, none⟩ = some (.int .u64 h) ∧ w'.cell? ⟨W.heap.size, 1, none⟩ = some (.int .u64 l)) (by kernel_rfl) ?_ (fun hHeld => ?_)
  · (try dsimp only)
    simp [go_sem]
  refine wo_start (N := W.heap.size + 1) (i1 := 8) (d1 := 11) (v1 := #[.bool false, .int .u64 0, .int .u64 0, .int .i64 0, .bool false, .int .i64 0, .int .i64 0, .int .i64 0, .int .i64 0]) (t1 := 202) (f := 1) (n := 8) (T := fun w' => Below W.heap.size W w') (by kernel_rfl) (by kernel_rfl) (fun _ _ _ _ _ h => h) (stable_at2 _ _ _) ?_ (stable_below W) hHeld ((below1 W _).drew) (by simp) ?_
  · intro a w K h
    unfold wpOp
    go_simp
    exact Or.inl h
  clear hHeld
  refine woA 0 15 ?_
  refine woA 1 16 ?_
  refine woA 2 17 ?_
  refine woA 3 18 ?_
  refine woA 4 19 ?_
  refine woA 5 20 ?_
  refine wo_call (c := 6) (o := { dst := some 21, op := _, type := _, pos := _, after := _, guard := _ }) rfl (by kernel_rfl) (by kernel_rfl) (fun u hSu hTu Kk hKk => ?_)
  go_simp
  refine (unhide HO _).mono ?_
  rintro _ wn ⟨rfl, hbl⟩
  have HTn := hide (bthen hTu hbl)
  clear hTu hSu
  (try go_wp2_with fail)
  refine hKk.out _ _ (fun w' => Below W.heap.size W w') (by assumption) (stable_below W) (unhide HTn) ?_
  clear hKk Kk HTn
  (try simp only [Act.put, List.setIfInBounds_toArray, List.set_cons_zero, List.set_cons_succ])
  refine woA 7 22 ?_
  refine wo_fin (by kernel_rfl) (fun wf b1 hSu hTu k1 => ?_)
  (try simp only [Act.put, List.setIfInBounds_toArray, List.set_cons_zero, List.set_cons_succ])
  unfold ptr
  have zb := k1.base
  have HRm := hide (fresh_room9 k1)
  obtain ⟨⟨v0, c0⟩, f0⟩ := (unhide HRm) 0 (by omega)
  obtain ⟨⟨v1, c1⟩, f1⟩ := (unhide HRm) 1 (by omega)
  obtain ⟨⟨v2, c2⟩, f2⟩ := (unhide HRm) 2 (by omega)
  obtain ⟨⟨v3, c3⟩, f3⟩ := (unhide HRm) 3 (by omega)
  obtain ⟨⟨v4, c4⟩, f4⟩ := (unhide HRm) 4 (by omega)
  obtain ⟨⟨v5, c5⟩, f5⟩ := (unhide HRm) 5 (by omega)
  obtain ⟨⟨v6, c6⟩, f6⟩ := (unhide HRm) 6 (by omega)
  obtain ⟨⟨v7, c7⟩, f7⟩ := (unhide HRm) 7 (by omega)
  obtain ⟨⟨v8, c8⟩, f8⟩ := (unhide HRm) 8 (by omega)
  refine anyH_at #[true, true, true, true, true, true, true, true, true, false] (by kernel_rfl) ?_
  refine wpAnyH_ready (rs := [9]) (by kernel_rfl) (by simp) ?_
  refine AllReadyH.cons (o := { dst := none, op := _, type := _, pos := _, after := _, guard := _ }) rfl (fun Kk hKk => ?_) AllReadyH.nil
  go_simp
  refine hKk.out _ _ ?_ (fun hHeld => ?_)
  · (try dsimp only)
    exact At2.set9 hSu (by omega) _ _ _ _ _ _ _ _ _
  clear hKk Kk
  refine wpAnyH_done (by kernel_rfl) ?_ _
  have HA9 := hide (at9_set9 (unhide HRm) (.bool n) (.int .u64 h) (.int .u64 l) (.int .i64 X) (.bool m) (.int .i64 w) (.int .i64 f) (.int .i64 L) (.int .i64 M))
  have HB := hide (bset9 (c := b1) hTu (by omega) (.bool n) (.int .u64 h) (.int .u64 l) (.int .i64 X) (.bool m) (.int .i64 w) (.int .i64 f) (.int .i64 L) (.int .i64 M))
  clear hHeld hSu hTu k1 c0 c1 c2 c3 c4 c5 c6 c7 c8 f0 f1 f2 f3 f4 f5 f6 f7 f8
  generalize ((((((((wf.setCell ⟨b1, 0, none⟩ (.bool n)).setCell ⟨b1, 1, none⟩ (.int .u64 h)).setCell ⟨b1, 2, none⟩ (.int .u64 l)).setCell ⟨b1, 3, none⟩ (.int .i64 X)).setCell ⟨b1, 4, none⟩ (.bool m)).setCell ⟨b1, 5, none⟩ (.int .i64 w)).setCell ⟨b1, 6, none⟩ (.int .i64 f)).setCell ⟨b1, 7, none⟩ (.int .i64 L)).setCell ⟨b1, 8, none⟩ (.int .i64 M) = wx at *
  obtain ⟨a0, a1, a2, a3, a4, a5, a6, a7, a8⟩ := unhide HA9
  go_wp2_with fail
  refine (unhide HN _).mono ?_
  rintro _ wz ⟨rfl, hbl⟩
  have HB := hide (bthen (unhide HB) hbl)
  go_wp2_with fail
  go_ret
  exact ⟨rfl, unhide HB⟩

set_option maxRecDepth 100000 in
set_option maxHeartbeats 4000000 in
theorem pack_l {w h l X f L M V : Int} {n m : Bool} (W : World) (xa : X < -4096) (HO : Ct 237 #[.int .i64 w] (.agg #[.int .i64 w, .int .i64 f, .int .i64 L, .int .i64 M]))
    (HN : Ct 238 #[.agg #[.bool n, .int .u64 h, .int .u64 l, .int .i64 (-4096), .bool m, .int .i64 w, .int .i64 f, .int .i64 L, .int .i64 M]] (.int .u64 V)) :
    Calls Tryz.prog 160 #[.int .i64 w, .bool n, .agg #[.int .u64 h, .int .u64 l], .int .i64 X, .bool m] W fun r W' => r = .returned (.int .u64 V) ∧ Below W.heap.size W W' := by
  go_enter Tryz.func160, Tryz.ntmps160
  go_wp2_with fail
  refine wp_region_held_drew (S := fun w' => w'.cell? ⟨W.heap.size, 0, none⟩ = some (.int .u64 h) ∧ w'.cell? ⟨W.heap.size, 1, none⟩ = some (.int .u64 l)) (by kernel_rfl) ?_ (fun hHeld => ?_)
  · (try dsimp only)
    simp [go_sem]
  refine wo_start (N := W.heap.size + 1) (i1 := 8) (d1 := 11) (v1 := #[.bool false, .int .u64 0, .int .u64 0, .int .i64 0, .bool false, .int .i64 0, .int .i64 0, .int .i64 0, .int .i64 0]) (t1 := 202) (f := 1) (n := 8) (T := fun w' => Below W.heap.size W w') (by kernel_rfl) (by kernel_rfl) (fun _ _ _ _ _ h => h) (stable_at2 _ _ _) ?_ (stable_below W) hHeld ((below1 W _).drew) (by simp) ?_
  · intro a w K h
    unfold wpOp
    go_simp
    exact Or.inl h
  clear hHeld
  refine woA 0 15 ?_
  refine woA 1 16 ?_
  refine woA 2 17 ?_
  refine woA 3 18 ?_
  refine woA 4 19 ?_
  refine woA 5 20 ?_
  refine wo_call (c := 6) (o := { dst := some 21, op := _, type := _, pos := _, after := _, guard := _ }) rfl (by kernel_rfl) (by kernel_rfl) (fun u hSu hTu Kk hKk => ?_)
  go_simp
  refine (unhide HO _).mono ?_
  rintro _ wn ⟨rfl, hbl⟩
  have HTn := hide (bthen hTu hbl)
  clear hTu hSu
  (try go_wp2_with fail)
  refine hKk.out _ _ (fun w' => Below W.heap.size W w') (by assumption) (stable_below W) (unhide HTn) ?_
  clear hKk Kk HTn
  (try simp only [Act.put, List.setIfInBounds_toArray, List.set_cons_zero, List.set_cons_succ])
  refine woA 7 22 ?_
  refine wo_fin (by kernel_rfl) (fun wf b1 hSu hTu k1 => ?_)
  (try simp only [Act.put, List.setIfInBounds_toArray, List.set_cons_zero, List.set_cons_succ])
  unfold ptr
  have zb := k1.base
  have HRm := hide (fresh_room9 k1)
  obtain ⟨⟨v0, c0⟩, f0⟩ := (unhide HRm) 0 (by omega)
  obtain ⟨⟨v1, c1⟩, f1⟩ := (unhide HRm) 1 (by omega)
  obtain ⟨⟨v2, c2⟩, f2⟩ := (unhide HRm) 2 (by omega)
  obtain ⟨⟨v3, c3⟩, f3⟩ := (unhide HRm) 3 (by omega)
  obtain ⟨⟨v4, c4⟩, f4⟩ := (unhide HRm) 4 (by omega)
  obtain ⟨⟨v5, c5⟩, f5⟩ := (unhide HRm) 5 (by omega)
  obtain ⟨⟨v6, c6⟩, f6⟩ := (unhide HRm) 6 (by omega)
  obtain ⟨⟨v7, c7⟩, f7⟩ := (unhide HRm) 7 (by omega)
  obtain ⟨⟨v8, c8⟩, f8⟩ := (unhide HRm) 8 (by omega)
  refine anyH_at #[true, true, true, true, true, true, true, true, true, false] (by kernel_rfl) ?_
  refine wpAnyH_ready (rs := [9]) (by kernel_rfl) (by simp) ?_
  refine AllReadyH.cons (o := { dst := none, op := _, type := _, pos := _, after := _, guard := _ }) rfl (fun Kk hKk => ?_) AllReadyH.nil
  go_simp
  refine hKk.out _ _ ?_ (fun hHeld => ?_)
  · (try dsimp only)
    exact At2.set9 hSu (by omega) _ _ _ _ _ _ _ _ _
  clear hKk Kk
  refine wpAnyH_done (by kernel_rfl) ?_ _
  have HA9 := hide (at9_set9 (unhide HRm) (.bool n) (.int .u64 h) (.int .u64 l) (.int .i64 (-4096)) (.bool m) (.int .i64 w) (.int .i64 f) (.int .i64 L) (.int .i64 M))
  have HB := hide (bset9 (c := b1) hTu (by omega) (.bool n) (.int .u64 h) (.int .u64 l) (.int .i64 (-4096)) (.bool m) (.int .i64 w) (.int .i64 f) (.int .i64 L) (.int .i64 M))
  clear hHeld hSu hTu k1 c0 c1 c2 c3 c4 c5 c6 c7 c8 f0 f1 f2 f3 f4 f5 f6 f7 f8
  generalize ((((((((wf.setCell ⟨b1, 0, none⟩ (.bool n)).setCell ⟨b1, 1, none⟩ (.int .u64 h)).setCell ⟨b1, 2, none⟩ (.int .u64 l)).setCell ⟨b1, 3, none⟩ (.int .i64 (-4096))).setCell ⟨b1, 4, none⟩ (.bool m)).setCell ⟨b1, 5, none⟩ (.int .i64 w)).setCell ⟨b1, 6, none⟩ (.int .i64 f)).setCell ⟨b1, 7, none⟩ (.int .i64 L)).setCell ⟨b1, 8, none⟩ (.int .i64 M) = wx at *
  obtain ⟨a0, a1, a2, a3, a4, a5, a6, a7, a8⟩ := unhide HA9
  go_wp2_with fail
  refine (unhide HN _).mono ?_
  rintro _ wz ⟨rfl, hbl⟩
  have HB := hide (bthen (unhide HB) hbl)
  go_wp2_with fail
  go_ret
  exact ⟨rfl, unhide HB⟩

set_option maxRecDepth 100000 in
set_option maxHeartbeats 4000000 in
theorem pack_h {w h l X f L M V : Int} {n m : Bool} (W : World) (xa : ¬ X < -4096) (xb : 4096 < X) (HO : Ct 237 #[.int .i64 w] (.agg #[.int .i64 w, .int .i64 f, .int .i64 L, .int .i64 M]))
    (HN : Ct 238 #[.agg #[.bool n, .int .u64 h, .int .u64 l, .int .i64 4096, .bool m, .int .i64 w, .int .i64 f, .int .i64 L, .int .i64 M]] (.int .u64 V)) :
    Calls Tryz.prog 160 #[.int .i64 w, .bool n, .agg #[.int .u64 h, .int .u64 l], .int .i64 X, .bool m] W fun r W' => r = .returned (.int .u64 V) ∧ Below W.heap.size W W' := by
  go_enter Tryz.func160, Tryz.ntmps160
  go_wp2_with fail
  refine wp_region_held_drew (S := fun w' => w'.cell? ⟨W.heap.size, 0, none⟩ = some (.int .u64 h) ∧ w'.cell? ⟨W.heap.size, 1, none⟩ = some (.int .u64 l)) (by kernel_rfl) ?_ (fun hHeld => ?_)
  · (try dsimp only)
    simp [go_sem]
  refine wo_start (N := W.heap.size + 1) (i1 := 8) (d1 := 11) (v1 := #[.bool false, .int .u64 0, .int .u64 0, .int .i64 0, .bool false, .int .i64 0, .int .i64 0, .int .i64 0, .int .i64 0]) (t1 := 202) (f := 1) (n := 8) (T := fun w' => Below W.heap.size W w') (by kernel_rfl) (by kernel_rfl) (fun _ _ _ _ _ h => h) (stable_at2 _ _ _) ?_ (stable_below W) hHeld ((below1 W _).drew) (by simp) ?_
  · intro a w K h
    unfold wpOp
    go_simp
    exact Or.inl h
  clear hHeld
  refine woA 0 15 ?_
  refine woA 1 16 ?_
  refine woA 2 17 ?_
  refine woA 3 18 ?_
  refine woA 4 19 ?_
  refine woA 5 20 ?_
  refine wo_call (c := 6) (o := { dst := some 21, op := _, type := _, pos := _, after := _, guard := _ }) rfl (by kernel_rfl) (by kernel_rfl) (fun u hSu hTu Kk hKk => ?_)
  go_simp
  refine (unhide HO _).mono ?_
  rintro _ wn ⟨rfl, hbl⟩
  have HTn := hide (bthen hTu hbl)
  clear hTu hSu
  (try go_wp2_with fail)
  refine hKk.out _ _ (fun w' => Below W.heap.size W w') (by assumption) (stable_below W) (unhide HTn) ?_
  clear hKk Kk HTn
  (try simp only [Act.put, List.setIfInBounds_toArray, List.set_cons_zero, List.set_cons_succ])
  refine woA 7 22 ?_
  refine wo_fin (by kernel_rfl) (fun wf b1 hSu hTu k1 => ?_)
  (try simp only [Act.put, List.setIfInBounds_toArray, List.set_cons_zero, List.set_cons_succ])
  unfold ptr
  have zb := k1.base
  have HRm := hide (fresh_room9 k1)
  obtain ⟨⟨v0, c0⟩, f0⟩ := (unhide HRm) 0 (by omega)
  obtain ⟨⟨v1, c1⟩, f1⟩ := (unhide HRm) 1 (by omega)
  obtain ⟨⟨v2, c2⟩, f2⟩ := (unhide HRm) 2 (by omega)
  obtain ⟨⟨v3, c3⟩, f3⟩ := (unhide HRm) 3 (by omega)
  obtain ⟨⟨v4, c4⟩, f4⟩ := (unhide HRm) 4 (by omega)
  obtain ⟨⟨v5, c5⟩, f5⟩ := (unhide HRm) 5 (by omega)
  obtain ⟨⟨v6, c6⟩, f6⟩ := (unhide HRm) 6 (by omega)
  obtain ⟨⟨v7, c7⟩, f7⟩ := (unhide HRm) 7 (by omega)
  obtain ⟨⟨v8, c8⟩, f8⟩ := (unhide HRm) 8 (by omega)
  refine anyH_at #[true, true, true, true, true, true, true, true, true, false] (by kernel_rfl) ?_
  refine wpAnyH_ready (rs := [9]) (by kernel_rfl) (by simp) ?_
  refine AllReadyH.cons (o := { dst := none, op := _, type := _, pos := _, after := _, guard := _ }) rfl (fun Kk hKk => ?_) AllReadyH.nil
  go_simp
  refine hKk.out _ _ ?_ (fun hHeld => ?_)
  · (try dsimp only)
    exact At2.set9 hSu (by omega) _ _ _ _ _ _ _ _ _
  clear hKk Kk
  refine wpAnyH_done (by kernel_rfl) ?_ _
  have HA9 := hide (at9_set9 (unhide HRm) (.bool n) (.int .u64 h) (.int .u64 l) (.int .i64 4096) (.bool m) (.int .i64 w) (.int .i64 f) (.int .i64 L) (.int .i64 M))
  have HB := hide (bset9 (c := b1) hTu (by omega) (.bool n) (.int .u64 h) (.int .u64 l) (.int .i64 4096) (.bool m) (.int .i64 w) (.int .i64 f) (.int .i64 L) (.int .i64 M))
  clear hHeld hSu hTu k1 c0 c1 c2 c3 c4 c5 c6 c7 c8 f0 f1 f2 f3 f4 f5 f6 f7 f8
  generalize ((((((((wf.setCell ⟨b1, 0, none⟩ (.bool n)).setCell ⟨b1, 1, none⟩ (.int .u64 h)).setCell ⟨b1, 2, none⟩ (.int .u64 l)).setCell ⟨b1, 3, none⟩ (.int .i64 4096)).setCell ⟨b1, 4, none⟩ (.bool m)).setCell ⟨b1, 5, none⟩ (.int .i64 w)).setCell ⟨b1, 6, none⟩ (.int .i64 f)).setCell ⟨b1, 7, none⟩ (.int .i64 L)).setCell ⟨b1, 8, none⟩ (.int .i64 M) = wx at *
  obtain ⟨a0, a1, a2, a3, a4, a5, a6, a7, a8⟩ := unhide HA9
  go_wp2_with fail
  refine (unhide HN _).mono ?_
  rintro _ wz ⟨rfl, hbl⟩
  have HB := hide (bthen (unhide HB) hbl)
  go_wp2_with fail
  go_ret
  exact ⟨rfl, unhide HB⟩

end Go.Proofs.YtpbgpdmffejdgaaGreatDoor
