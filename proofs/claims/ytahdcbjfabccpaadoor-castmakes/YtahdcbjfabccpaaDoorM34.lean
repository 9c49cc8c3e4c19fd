/- Pack, PackA, PackB, Whole, KeepsA, Narrow, SumB, SumC, SumD, NearX, Exact. -/
import Derived.Test.YtahdcbjfabccpaaDoorM01
import Derived.Test.YtahdcbjfabccpaaDoorM07
import Derived.Test.YtahdcbjfabccpaaDoorM16
import Derived.Test.YtahdcbjfabccpaaDoorM30
import Derived.Test.YtahdcbjfabccpaaDoorM31
import Derived.Test.YtahdcbjfabccpaaDoorM32
import Derived.Test.YtahdcbjfabccpaaDoorM33
import Derived.Shelf.Spec.BitsCarry
import Derived.Handy
namespace Go.Proofs.YtahdcbjfabccpaaDoor
open Go.RowKit

theorem set_same9 {b o : Nat} {w : World} (h : Room b 9 w) (ho : o < 9) (v : Value) : (w.setCell ⟨b, o, none⟩ v).cell? ⟨b, o, none⟩ = some v := by
  obtain ⟨⟨u, h1⟩, _⟩ := h o ho
  exact World.cell?_setCell_same _ _ _ h1
theorem at9_set9 {b : Nat} {w : World} (h : Room b 9 w) (v0 v1 v2 v3 v4 v5 v6 v7 v8 : Value) :
    At9 b v0 v1 v2 v3 v4 v5 v6 v7 v8 (((((((((w.setCell ⟨b, 0, none⟩ v0).setCell ⟨b, 1, none⟩ v1).setCell ⟨b, 2, none⟩ v2).setCell ⟨b, 3, none⟩ v3).setCell ⟨b, 4, none⟩ v4).setCell ⟨b, 5, none⟩ v5).setCell ⟨b, 6, none⟩ v6).setCell ⟨b, 7, none⟩ v7).setCell ⟨b, 8, none⟩ v8) :=
  ⟨set_off _ (by omega) (set_off _ (by omega) (set_off _ (by omega) (set_off _ (by omega) (set_off _ (by omega) (set_off _ (by omega) (set_off _ (by omega) (set_off _ (by omega) (set_same9 h (by omega) _)))))))),
   set_off _ (by omega) (set_off _ (by omega) (set_off _ (by omega) (set_off _ (by omega) (set_off _ (by omega) (set_off _ (by omega) (set_off _ (by omega) (set_same9 (h.set _ _) (by omega) _))))))),
   set_off _ (by omega) (set_off _ (by omega) (set_off _ (by omega) (set_off _ (by omega) (set_off _ (by omega) (set_off _ (by omega) (set_same9 ((h.set _ _).set _ _) (by omega) _)))))),
   set_off _ (by omega) (set_off _ (by omega) (set_off _ (by omega) (set_off _ (by omega) (set_off _ (by omega) (set_same9 (((h.set _ _).set _ _).set _ _) (by omega) _))))),
   set_off _ (by omega) (set_off _ (by omega) (set_off _ (by omega) (set_off _ (by omega) (set_same9 ((((h.set _ _).set _ _).set _ _).set _ _) (by omega) _)))),
   set_off _ (by omega) (set_off _ (by omega) (set_off _ (by omega) (set_same9 (((((h.set _ _).set _ _).set _ _).set _ _).set _ _) (by omega) _))),
   set_off _ (by omega) (set_off _ (by omega) (set_same9 ((((((h.set _ _).set _ _).set _ _).set _ _).set _ _).set _ _) (by omega) _)),
   set_off _ (by omega) (set_same9 (((((((h.set _ _).set _ _).set _ _).set _ _).set _ _).set _ _).set _ _) (by omega) _),
   set_same9 ((((((((h.set _ _).set _ _).set _ _).set _ _).set _ _).set _ _).set _ _).set _ _) (by omega) _⟩
theorem bset9 {a b : World} {c : Nat} (h : Below a.heap.size a b) (hc : a.heap.size ≤ c) (v0 v1 v2 v3 v4 v5 v6 v7 v8 : Value) :
    Below a.heap.size a (((((((((b.setCell ⟨c, 0, none⟩ v0).setCell ⟨c, 1, none⟩ v1).setCell ⟨c, 2, none⟩ v2).setCell ⟨c, 3, none⟩ v3).setCell ⟨c, 4, none⟩ v4).setCell ⟨c, 5, none⟩ v5).setCell ⟨c, 6, none⟩ v6).setCell ⟨c, 7, none⟩ v7).setCell ⟨c, 8, none⟩ v8) :=
  (bset (bset (bset (bset (bset (bset (bset (bset (bset h _ hc _ _) _ hc _ _) _ hc _ _) _ hc _ _) _ hc _ _) _ hc _ _) _ hc _ _) _ hc _ _) _ hc _ _)
theorem At2.set9 {b c : Nat} {x y : Value} {w : World} (h : At2 b x y w) (hc : b ≠ c) (v0 v1 v2 v3 v4 v5 v6 v7 v8 : Value) :
    At2 b x y (((((((((w.setCell ⟨c, 0, none⟩ v0).setCell ⟨c, 1, none⟩ v1).setCell ⟨c, 2, none⟩ v2).setCell ⟨c, 3, none⟩ v3).setCell ⟨c, 4, none⟩ v4).setCell ⟨c, 5, none⟩ v5).setCell ⟨c, 6, none⟩ v6).setCell ⟨c, 7, none⟩ v7).setCell ⟨c, 8, none⟩ v8) :=
  (((((((((h.set hc _ _).set hc _ _).set hc _ _).set hc _ _).set hc _ _).set hc _ _).set hc _ _).set hc _ _).set hc _ _)
theorem fresh_room9 {N b : Nat} {v0 v1 v2 v3 v4 v5 v6 v7 v8 : Value} {w : World} (h : Fresh N #[v0, v1, v2, v3, v4, v5, v6, v7, v8] b w) : Room b 9 w := fun o ho => by
  refine ⟨?_, h.thawed o⟩
  match o, ho with
  | 0, _ => exact ⟨_, h.cell 0 _ rfl⟩
  | 1, _ => exact ⟨_, h.cell 1 _ rfl⟩
  | 2, _ => exact ⟨_, h.cell 2 _ rfl⟩
  | 3, _ => exact ⟨_, h.cell 3 _ rfl⟩
  | 4, _ => exact ⟨_, h.cell 4 _ rfl⟩
  | 5, _ => exact ⟨_, h.cell 5 _ rfl⟩
  | 6, _ => exact ⟨_, h.cell 6 _ rfl⟩
  | 7, _ => exact ⟨_, h.cell 7 _ rfl⟩
  | 8, _ => exact ⟨_, h.cell 8 _ rfl⟩

set_option maxRecDepth 100000 in
set_option maxHeartbeats 2000000 in
theorem floatsOf_l {w e f X1 S1 K1 X2 S2 K2 Mx : Int} {n1 n2 : Bool} (W : World) (HF : Ct 20 #[.int .i64 w] (.tuple #[.int .i64 e, .int .i64 f]))
    (H1 : Ct 30 #[.int .i64 w, .int .u64 1] (.agg #[.bool n1, .int .i64 K1, .int .i64 X1, .int .u64 S1])) (HM : Ct 74 #[.int .i64 w, .bool false] (.int .u64 Mx))
    (H2 : Ct 30 #[.int .i64 w, .int .u64 Mx] (.agg #[.bool n2, .int .i64 K2, .int .i64 X2, .int .u64 S2])) :
    Calls Tryd.prog 70 #[.int .i64 w] W fun r W' => r = .returned (.agg #[.int .i64 w, .int .i64 f, .int .i64 X1, .int .i64 X2]) ∧ Below W.heap.size W W' := by
  have f1 : ∀ W : World, (Instr.field 52 (.agg #[.bool n1, .int .i64 K1, .int .i64 X1, .int .u64 S1]) 2).run Tryd.prog W = .ok (.int .i64 X1) W := fun _ => by kernel_rfl
  have f2 : ∀ W : World, (Instr.field 52 (.agg #[.bool n2, .int .i64 K2, .int .i64 X2, .int .u64 S2]) 2).run Tryd.prog W = .ok (.int .i64 X2) W := fun _ => by kernel_rfl
  have HR : Hid (Room W.heap.size 4 (W.alloc (.cells #[.int .i64 0, .int .i64 0, .int .i64 0, .int .i64 0] 89))) := room4 (Below.refl _ _)
  have HB := hide (below1 W (.cells #[.int .i64 0, .int .i64 0, .int .i64 0, .int .i64 0] 89))
  go_enter Tryd.func70, Tryd.ntmps70
  go_wp2_with fail
  refine (unhide HF _).mono ?_
  rintro _ w1 ⟨rfl, hbl⟩
  have HB := hide (bthen (unhide HB) hbl)
  have HR := hide ((unhide HR).below hbl)
  clear hbl
  go_wp2_with fail
  refine (unhide H1 _).mono ?_
  rintro _ w2 ⟨rfl, hbl⟩
  have HB := hide (bthen (unhide HB) hbl)
  have HR := hide ((unhide HR).below hbl)
  clear hbl
  go_wp2_with fail
  refine (unhide HM _).mono ?_
  rintro _ w3 ⟨rfl, hbl⟩
  have HB := hide (bthen (unhide HB) hbl)
  have HR := hide ((unhide HR).below hbl)
  clear hbl
  go_wp2_with fail
  refine (unhide H2 _).mono ?_
  rintro _ w4 ⟨rfl, hbl⟩
  have HB := hide (bthen (unhide HB) hbl)
  have HR := hide ((unhide HR).below hbl)
  clear hbl
  obtain ⟨⟨v0, c0⟩, r0⟩ := (unhide HR) 0 (by omega)
  obtain ⟨⟨v1, c1⟩, r1⟩ := (unhide HR) 1 (by omega)
  obtain ⟨⟨v2, c2⟩, r2⟩ := (unhide HR) 2 (by omega)
  obtain ⟨⟨v3, c3⟩, r3⟩ := (unhide HR) 3 (by omega)
  go_wp2_with fail
  exact bodyPost_ret (v := .agg #[.int .i64 w, .int .i64 f, .int .i64 X1, .int .i64 X2]) (by simp (maxDischargeDepth := 8) [results, Tryd.results70, go_sem, c0, c1, c2, c3]) rfl ⟨rfl, bset4 (unhide HB) _ _ _ _⟩

set_option maxRecDepth 100000 in
set_option maxHeartbeats 4000000 in
theorem pack_m {w h l X f L M V : Int} {n m : Bool} (W : World) (xa : ¬ X < -4096) (xb : ¬ 4096 < X) (HO : Ct 70 #[.int .i64 w] (.agg #[.int .i64 w, .int .i64 f, .int .i64 L, .int .i64 M]))
    (HN : Ct 71 #[.agg #[.bool n, .int .u64 h, .int .u64 l, .int .i64 X, .bool m, .int .i64 w, .int .i64 f, .int .i64 L, .int .i64 M]] (.int .u64 V)) :
    Calls Tryd.prog 57 #[.int .i64 w, .bool n, .agg #[.int .u64 h, .int .u64 l], .int .i64 X, .bool m] W fun r W' => r = .returned (.int .u64 V) ∧ Below W.heap.size W W' := by
  go_enter Tryd.func57, Tryd.ntmps57
  go_wp2_with fail
  refine wp_region_held_drew (S := fun w' => w'.cell? ⟨W.heap.size, 0, none⟩ = some (.int .u64 h) ∧ w'.cell? ⟨W.heap.size, 1, none⟩ = some (.int .u64 l)) (by kernel_rfl) ?_ (fun hHeld => ?_)
  · (try dsimp only)
    simp [go_sem]
  refine wo_start (N := W.heap.size + 1) (i1 := 8) (d1 := 11) (v1 := #[.bool false, .int .u64 0, .int .u64 0, .int .i64 0, .bool false, .int .i64 0, .int .i64 0, .int .i64 0, .int .i64 0]) (t1 := 92) (f := 1) (n := 8) (T := fun w' => Below W.heap.size W w') (by kernel_rfl) (by kernel_rfl) (fun _ _ _ _ _ h => h) (stable_at2 _ _ _) ?_ (stable_below W) hHeld ((below1 W _).drew) (by simp) ?_
  · intro a w K h
    unfold wpOp
    go_simp
    exact Or.inl h
  clear hHeld
  refine woA 0 15 ?_
  refine woA 1 16 ?_
  refine woA 2 17 ?_
  refine woA 3 18 ?_
  refine woA 4 19 ?_
  refine woA 5 20 ?_
  refine wo_call (c := 6) (o := { dst := some 21, op := _, type := _, pos := _, after := _, guard := _ }) rfl (by kernel_rfl) (by kernel_rfl) (fun u hSu hTu Kk hKk => ?_)
  go_simp
  refine (unhide HO _).mono ?_
  rintro _ wn ⟨rfl, hbl⟩
  have HTn := hide (bthen hTu hbl)
  clear hTu hSu
  (try go_wp2_with fail)
  refine hKk.out _ _ (fun w' => Below W.heap.size W w') (by assumption) (stable_below W) (unhide HTn) ?_
  clear hKk Kk HTn
  (try simp only [Act.put, List.setIfInBounds_toArray, List.set_cons_zero, List.set_cons_succ])
  refine woA 7 22 ?_
  refine wo_fin (by kernel_rfl) (fun wf b1 hSu hTu k1 => ?_)
  (try simp only [Act.put, List.setIfInBounds_toArray, List.set_cons_zero, List.set_cons_succ])
  unfold ptr
  have zb := k1.base
  have HRm := hide (fresh_room9 k1)
  obtain ⟨⟨v0, c0⟩, f0⟩ := (unhide HRm) 0 (by omega)
  obtain ⟨⟨v1, c1⟩, f1⟩ := (unhide HRm) 1 (by omega)
  obtain ⟨⟨v2, c2⟩, f2⟩ := (unhide HRm) 2 (by omega)
  obtain ⟨⟨v3, c3⟩, f3⟩ := (unhide HRm) 3 (by omega)
  obtain ⟨⟨v4, c4⟩, f4⟩ := (unhide HRm) 4 (by omega)
  obtain ⟨⟨v5, c5⟩, f5⟩ := (unhide HRm) 5 (by omega)
  obtain ⟨⟨v6, c6⟩, f6⟩ := (unhide HRm) 6 (by omega)
  obtain ⟨⟨v7, c7⟩, f7⟩ := (unhide HRm) 7 (by omega)
  obtain ⟨⟨v8, c8⟩, f8⟩ := (unhide HRm) 8 (by omega)
  refine anyH_at #[true, true, true, true, true, true, true, true, true, false] (by kernel_rfl) ?_
  refine wpAnyH_ready (rs := [9]) (by kernel_rfl) (by simp) ?_
  refine AllReadyH.cons (o := { dst := none, op := _, type := _, pos := _, after := _, guard := _ }) rfl (fun Kk hKk => ?_) AllReadyH.nil
  go_simp
  refine hKk.out _ _ ?_ (fun hHeld => ?_)
  · (try dsimp only)
    exact At2.set9 hSu (by omega) _ _ _ _ _ _ _ _ _
  clear hKk Kk
  refine wpAnyH_done (by kernel_rfl) ?_ _
  have HA9 := hide (at9_set9 (unhide HRm) (.bool n) (.int .u64 h) (.int .u64 l) (.int .i64 X) (.bool m) (.int .i64 w) (.int .i64 f) (.int .i64 L) (.int .i64 M))
  have HB := hide (bset9 (c := b1) hTu (by omega) (.bool n) (.int .u64 h) (.int .u64 l) (.int .i64 X) (.bool m) (.int .i64 w) (.int .i64 f) (.int .i64 L) (.int .i64 M))
  clear hHeld hSu hTu k1 c0 c1 c2 c3 c4 c5 c6 c7 c8 f0 f1 f2 f3 f4 f5 f6 f7 f8
  generalize ((((((((wf.setCell ⟨b1, 0, none⟩ (.bool n)).setCell ⟨b1, 1, none⟩ (.int .u64 h)).setCell ⟨b1, 2, none⟩ (.int .u64 l)).setCell ⟨b1, 3, none⟩ (.int .i64 X)).setCell ⟨b1, 4, none⟩ (.bool m)).setCell ⟨b1, 5, none⟩ (.int .i64 w)).setCell ⟨b1, 6, none⟩ (.int .i64 f)).setCell ⟨b1, 7, none⟩ (.int .i64 L)).setCell ⟨b1, 8, none⟩ (.int .i64 M) = wx at *
  obtain ⟨a0, a1, a2, a3, a4, a5, a6, a7, a8⟩ := unhide HA9
  go_wp2_with fail
  refine (unhide HN _).mono ?_
  rintro _ wz ⟨rfl, hbl⟩
  have HB := hide (bthen (unhide HB) hbl)
  go_wp2_with fail
  go_ret
  exact ⟨rfl, unhide HB⟩

set_option maxRecDepth 100000 in
set_option maxHeartbeats 4000000 in
theorem pack_l {w h l X f L M V : Int} {n m : Bool} (W : World) (xa : X < -4096) (HO : Ct 70 #[.int .i64 w] (.agg #[.int .i64 w, .int .i64 f, .int .i64 L, .int .i64 M]))
    (HN : Ct 71 #[.agg #[.bool n, .int .u64 h, .int .u64 l, .int .i64 (-4096), .bool m, .int .i64 w, .int .i64 f, .int .i64 L, .int .i64 M]] (.int .u64 V)) :
    Calls Tryd.prog 57 #[.int .i64 w, .bool n, .agg #[.int .u64 h, .int .u64 l], .int .i64 X, .bool m] W fun r W' => r = .returned (.int .u64 V) ∧ Below W.heap.size W W' := by
  go_enter Tryd.func57, Tryd.ntmps57
  go_wp2_with fail
  refine wp_region_held_drew (S := fun w' => w'.cell? ⟨W.heap.size, 0, none⟩ = some (.int .u64 h) ∧ w'.cell? ⟨W.heap.size, 1, none⟩ = some (.int .u64 l)) (by kernel_rfl) ?_ (fun hHeld => ?_)
  · (try dsimp only)
    simp [go_sem]
  refine wo_start (N := W.heap.size + 1) (i1 := 8) (d1 := 11) (v1 := #[.bool false, .int .u64 0, .int .u64 0, .int .i64 0, .bool false, .int .i64 0, .int .i64 0, .int .i64 0, .int .i64 0]) (t1 := 92) (f := 1) (n := 8) (T := fun w' => Below W.heap.size W w') (by kernel_rfl) (by kernel_rfl) (fun _ _ _ _ _ h => h) (stable_at2 _ _ _) ?_ (stable_below W) hHeld ((below1 W _).drew) (by simp) ?_
  · intro a w K h
    unfold wpOp
    go_simp
    exact Or.inl h
  clear hHeld
  refine woA 0 15 ?_
  refine woA 1 16 ?_
  refine woA 2 17 ?_
  refine woA 3 18 ?_
  refine woA 4 19 ?_
  refine woA 5 20 ?_
  refine wo_call (c := 6) (o := { dst := some 21, op := _, type := _, pos := _, after := _, guard := _ }) rfl (by kernel_rfl) (by kernel_rfl) (fun u hSu hTu Kk hKk => ?_)
  go_simp
  refine (unhide HO _).mono ?_
  rintro _ wn ⟨rfl, hbl⟩
  have HTn := hide (bthen hTu hbl)
  clear hTu hSu
  (try go_wp2_with fail)
  refine hKk.out _ _ (fun w' => Below W.heap.size W w') (by assumption) (stable_below W) (unhide HTn) ?_
  clear hKk Kk HTn
  (try simp only [Act.put, List.setIfInBounds_toArray, List.set_cons_zero, List.set_cons_succ])
  refine woA 7 22 ?_
  refine wo_fin (by kernel_rfl) (fun wf b1 hSu hTu k1 => ?_)
  (try simp only [Act.put, List.setIfInBounds_toArray, List.set_cons_zero, List.set_cons_succ])
  unfold ptr
  have zb := k1.base
  have HRm := hide (fresh_room9 k1)
  obtain ⟨⟨v0, c0⟩, f0⟩ := (unhide HRm) 0 (by omega)
  obtain ⟨⟨v1, c1⟩, f1⟩ := (unhide HRm) 1 (by omega)
  obtain ⟨⟨v2, c2⟩, f2⟩ := (unhide HRm) 2 (by omega)
  obtain ⟨⟨v3, c3⟩, f3⟩ := (unhide HRm) 3 (by omega)
  obtain ⟨⟨v4, c4⟩, f4⟩ := (unhide HRm) 4 (by omega)
  obtain ⟨⟨v5, c5⟩, f5⟩ := (unhide HRm) 5 (by omega)
  obtain ⟨⟨v6, c6⟩, f6⟩ := (unhide HRm) 6 (by omega)
  obtain ⟨⟨v7, c7⟩, f7⟩ := (unhide HRm) 7 (by omega)
  obtain ⟨⟨v8, c8⟩, f8⟩ := (unhide HRm) 8 (by omega)
  refine anyH_at #[true, true, true, true, true, true, true, true, true, false] (by kernel_rfl) ?_
  refine wpAnyH_ready (rs := [9]) (by kernel_rfl) (by simp) ?_
  refine AllReadyH.cons (o := { dst := none, op := _, type := _, pos := _, after := _, guard := _ }) rfl (fun Kk hKk => ?_) AllReadyH.nil
  go_simp
  refine hKk.out _ _ ?_ (fun hHeld => ?_)
  · (try dsimp only)
    exact At2.set9 hSu (by omega) _ _ _ _ _ _ _ _ _
  clear hKk Kk
  refine wpAnyH_done (by kernel_rfl) ?_ _
  have HA9 := hide (at9_set9 (unhide HRm) (.bool n) (.int .u64 h) (.int .u64 l) (.int .i64 (-4096)) (.bool m) (.int .i64 w) (.int .i64 f) (.int .i64 L) (.int .i64 M))
  have HB := hide (bset9 (c := b1) hTu (by omega) (.bool n) (.int .u64 h) (.int .u64 l) (.int .i64 (-4096)) (.bool m) (.int .i64 w) (.int .i64 f) (.int .i64 L) (.int .i64 M))
  clear hHeld hSu hTu k1 c0 c1 c2 c3 c4 c5 c6 c7 c8 f0 f1 f2 f3 f4 f5 f6 f7 f8
  generalize ((((((((wf.setCell ⟨b1, 0, none⟩ (.bool n)).setCell ⟨b1, 1, none⟩ (.int .u64 h)).setCell ⟨b1, 2, none⟩ (.int .u64 l)).setCell ⟨b1, 3, none⟩ (.int .i64 (-4096))).setCell ⟨b1, 4, none⟩ (.bool m)).setCell ⟨b1, 5, none⟩ (.int .i64 w)).setCell ⟨b1, 6, none⟩ (.int .i64 f)).setCell ⟨b1, 7, none⟩ (.int .i64 L)).setCell ⟨b1, 8, none⟩ (.int .i64 M) = wx at *
  obtain ⟨a0, a1, a2, a3, a4, a5, a6, a7, a8⟩ := unhide HA9
  go_wp2_with fail
  refine (unhide HN _).mono ?_
  rintro _ wz ⟨rfl, hbl⟩
  have HB := hide (bthen (unhide HB) hbl)
  go_wp2_with fail
  go_ret
  exact ⟨rfl, unhide HB⟩

set_option maxRecDepth 100000 in
set_option maxHeartbeats 4000000 in
theorem pack_h {w h l X f L M V : Int} {n m : Bool} (W : World) (xa : ¬ X < -4096) (xb : 4096 < X) (HO : Ct 70 #[.int .i64 w] (.agg #[.int .i64 w, .int .i64 f, .int .i64 L, .int .i64 M]))
    (HN : Ct 71 #[.agg #[.bool n, .int .u64 h, .int .u64 l, .int .i64 4096, .bool m, .int .i64 w, .int .i64 f, .int .i64 L, .int .i64 M]] (.int .u64 V)) :
    Calls Tryd.prog 57 #[.int .i64 w, .bool n, .agg #[.int .u64 h, .int .u64 l], .int .i64 X, .bool m] W fun r W' => r = .returned (.int .u64 V) ∧ Below W.heap.size W W' := by
  go_enter Tryd.func57, Tryd.ntmps57
  go_wp2_with fail
  refine wp_region_held_drew (S := fun w' => w'.cell? ⟨W.heap.size, 0, none⟩ = some (.int .u64 h) ∧ w'.cell? ⟨W.heap.size, 1, none⟩ = some (.int .u64 l)) (by kernel_rfl) ?_ (fun hHeld => ?_)
  · (try dsimp only)
    simp [go_sem]
  refine wo_start (N := W.heap.size + 1) (i1 := 8) (d1 := 11) (v1 := #[.bool false, .int .u64 0, .int .u64 0, .int .i64 0, .bool false, .int .i64 0, .int .i64 0, .int .i64 0, .int .i64 0]) (t1 := 92) (f := 1) (n := 8) (T := fun w' => Below W.heap.size W w') (by kernel_rfl) (by kernel_rfl) (fun _ _ _ _ _ h => h) (stable_at2 _ _ _) ?_ (stable_below W) hHeld ((below1 W _).drew) (by simp) ?_
  · intro a w K h
    unfold wpOp
    go_simp
    exact Or.inl h
  clear hHeld
  refine woA 0 15 ?_
  refine woA 1 16 ?_
  refine woA 2 17 ?_
  refine woA 3 18 ?_
  refine woA 4 19 ?_
  refine woA 5 20 ?_
  refine wo_call (c := 6) (o := { dst := some 21, op := _, type := _, pos := _, after := _, guard := _ }) rfl (by kernel_rfl) (by kernel_rfl) (fun u hSu hTu Kk hKk => ?_)
  go_simp
  refine (unhide HO _).mono ?_
  rintro _ wn ⟨rfl, hbl⟩
  have HTn := hide (bthen hTu hbl)
  clear hTu hSu
  (try go_wp2_with fail)
  refine hKk.out _ _ (fun w' => Below W.heap.size W w') (by assumption) (stable_below W) (unhide HTn) ?_
  clear hKk Kk HTn
  (try simp only [Act.put, List.setIfInBounds_toArray, List.set_cons_zero, List.set_cons_succ])
  refine woA 7 22 ?_
  refine wo_fin (by kernel_rfl) (fun wf b1 hSu hTu k1 => ?_)
  (try simp only [Act.put, List.setIfInBounds_toArray, List.set_cons_zero, List.set_cons_succ])
  unfold ptr
  have zb := k1.base
  have HRm := hide (fresh_room9 k1)
  obtain ⟨⟨v0, c0⟩, f0⟩ := (unhide HRm) 0 (by omega)
  obtain ⟨⟨v1, c1⟩, f1⟩ := (unhide HRm) 1 (by omega)
  obtain ⟨⟨v2, c2⟩, f2⟩ := (unhide HRm) 2 (by omega)
  obtain ⟨⟨v3, c3⟩, f3⟩ := (unhide HRm) 3 (by omega)
  obtain ⟨⟨v4, c4⟩, f4⟩ := (unhide HRm) 4 (by omega)
  obtain ⟨⟨v5, c5⟩, f5⟩ := (unhide HRm) 5 (by omega)
  obtain ⟨⟨v6, c6⟩, f6⟩ := (unhide HRm) 6 (by omega)
  obtain ⟨⟨v7, c7⟩, f7⟩ := (unhide HRm) 7 (by omega)
  obtain ⟨⟨v8, c8⟩, f8⟩ := (unhide HRm) 8 (by omega)
  refine anyH_at #[true, true, true, true, true, true, true, true, true, false] (by kernel_rfl) ?_
  refine wpAnyH_ready (rs := [9]) (by kernel_rfl) (by simp) ?_
  refine AllReadyH.cons (o := { dst := none, op := _, type := _, pos := _, after := _, guard := _ }) rfl (fun Kk hKk => ?_) AllReadyH.nil
  go_simp
  refine hKk.out _ _ ?_ (fun hHeld => ?_)
  · (try dsimp only)
    exact At2.set9 hSu (by omega) _ _ _ _ _ _ _ _ _
  clear hKk Kk
  refine wpAnyH_done (by kernel_rfl) ?_ _
  have HA9 := hide (at9_set9 (unhide HRm) (.bool n) (.int .u64 h) (.int .u64 l) (.int .i64 4096) (.bool m) (.int .i64 w) (.int .i64 f) (.int .i64 L) (.int .i64 M))
  have HB := hide (bset9 (c := b1) hTu (by omega) (.bool n) (.int .u64 h) (.int .u64 l) (.int .i64 4096) (.bool m) (.int .i64 w) (.int .i64 f) (.int .i64 L) (.int .i64 M))
  clear hHeld hSu hTu k1 c0 c1 c2 c3 c4 c5 c6 c7 c8 f0 f1 f2 f3 f4 f5 f6 f7 f8
  generalize ((((((((wf.setCell ⟨b1, 0, none⟩ (.bool n)).setCell ⟨b1, 1, none⟩ (.int .u64 h)).setCell ⟨b1, 2, none⟩ (.int .u64 l)).setCell ⟨b1, 3, none⟩ (.int .i64 4096)).setCell ⟨b1, 4, none⟩ (.bool m)).setCell ⟨b1, 5, none⟩ (.int .i64 w)).setCell ⟨b1, 6, none⟩ (.int .i64 f)).setCell ⟨b1, 7, none⟩ (.int .i64 L)).setCell ⟨b1, 8, none⟩ (.int .i64 M) = wx at *
  obtain ⟨a0, a1, a2, a3, a4, a5, a6, a7, a8⟩ := unhide HA9
  go_wp2_with fail
  refine (unhide HN _).mono ?_
  rintro _ wz ⟨rfl, hbl⟩
  have HB := hide (bthen (unhide HB) hbl)
  go_wp2_with fail
  go_ret
  exact ⟨rfl, unhide HB⟩

end Go.Proofs.YtahdcbjfabccpaaDoor
namespace Go.Proofs.YtahdcbjfabccpaaDoor
open Go.RowKit
open Go.Proofs.YtahdcbjfabccpaaDoor.W

/-- What is taken of the halves. -/
def pick (N : Nat) (lost : Bool) : Nat := if N % 2 = 1 ∧ (lost = true ∨ N / 2 % 2 = 1) then N / 2 + 1 else N / 2

theorem half_parts (N : Nat) (h : N < 4611686018427387904) : (N : Int) / 2 = ((N / 2 : Nat) : Int) ∧ bits .and .u64 (N : Int) 1 = ((N % 2 : Nat) : Int) := by
  refine ⟨by omega, ?_⟩
  rw [and_mask 1 (N : Int) 1 (by omega) (by omega) rfl (by omega)]
  omega

theorem nearest_pick {h l E w f L M V T U : Int} {n m lost : Bool} {N s : Nat} (W : World) (HN : Ct 75 #[.agg #[.bool n, .int .u64 h, .int .u64 l, .int .i64 E, .bool m]] (.bool false)) (HT : Ct 76 #[.agg #[.bool n, .int .u64 h, .int .u64 l, .int .i64 E, .bool m]] (.int .i64 T))
    (t0 : -10000 ≤ T) (t1 : T ≤ 10000) (f0 : 0 ≤ f) (f1 : f ≤ 63) (hU : U = if T - f < L then L else T - f) (hN : N < 4611686018427387904) (hs : pick N lost = s)
    (HH : Ct 77 #[.agg #[.bool n, .int .u64 h, .int .u64 l, .int .i64 E, .bool m], .int .i64 U] (.tuple #[.int .u64 (N : Int), .bool lost])) (HF : Ct 78 #[.agg #[.bool n, .int .u64 h, .int .u64 l, .int .i64 E, .bool m, .int .i64 w, .int .i64 f, .int .i64 L, .int .i64 M], .int .u64 (s : Int), .int .i64 U] (.int .u64 V)) :
    Calls Tryd.prog 71 #[.agg #[.bool n, .int .u64 h, .int .u64 l, .int .i64 E, .bool m, .int .i64 w, .int .i64 f, .int .i64 L, .int .i64 M]] W fun r W' => r = .returned (.int .u64 V) ∧ Below W.heap.size W W' := by
  have kt : IntKind.i64.wrap (T - f) = T - f := i64_id (by omega) (by omega)
  obtain ⟨kN, ka⟩ := half_parts N hN
  obtain ⟨_, kb⟩ := half_parts (N / 2) (by omega)
  have kw : IntKind.u64.wrap (((N / 2 : Nat) : Int) + 1) = ((N / 2 : Nat) : Int) + 1 := by rw [IntKind.wrap_u64]; omega
  unfold pick at hs
  by_cases h1 : N % 2 = 1
  · have kh : (((N % 2 : Nat) : Int) == 1) = true := eq_t (by omega)
    cases lost
    · by_cases h2 : N / 2 % 2 = 1
      · have ko : (((N / 2 % 2 : Nat) : Int) == 1) = true := eq_t (by omega)
        rw [if_pos ⟨h1, Or.inr h2⟩] at hs
        rw [← hs, show ((N / 2 + 1 : Nat) : Int) = ((N / 2 : Nat) : Int) + 1 by omega] at HF
        by_cases xm : T - f < L
        · rw [if_pos xm] at hU; subst hU
          exact nearest_lo W HN HT kt xm kN ka kh kb ko kw HH HF
        · rw [if_neg xm] at hU; subst hU
          exact nearest_do W HN HT kt xm kN ka kh kb ko kw HH HF
      · have ko : (((N / 2 % 2 : Nat) : Int) == 1) = false := eq_f (by omega)
        rw [if_neg (by simp; omega)] at hs
        rw [← hs] at HF
        by_cases xm : T - f < L
        · rw [if_pos xm] at hU; subst hU
          exact nearest_le W HN HT kt xm kN ka kh kb ko HH HF
        · rw [if_neg xm] at hU; subst hU
          exact nearest_de W HN HT kt xm kN ka kh kb ko HH HF
    · rw [if_pos ⟨h1, Or.inl rfl⟩] at hs
      rw [← hs, show ((N / 2 + 1 : Nat) : Int) = ((N / 2 : Nat) : Int) + 1 by omega] at HF
      by_cases xm : T - f < L
      · rw [if_pos xm] at hU; subst hU
        exact nearest_lu W HN HT kt xm kN ka kh kw HH HF
      · rw [if_neg xm] at hU; subst hU
        exact nearest_du W HN HT kt xm kN ka kh kw HH HF
  · have kh : (((N % 2 : Nat) : Int) == 1) = false := eq_f (by omega)
    rw [if_neg (fun hh => h1 hh.1)] at hs
    rw [← hs] at HF
    by_cases xm : T - f < L
    · rw [if_pos xm] at hU; subst hU
      exact nearest_ln W HN HT kt xm kN ka kh HH HF
    · rw [if_neg xm] at hU; subst hU
      exact nearest_dn W HN HT kt xm kN ka kh HH HF

theorem pow_split2 (a b : Nat) (c : Nat) (h : a = b + c) : 2 ^ a = 2 ^ b * 2 ^ c := by rw [h, Nat.pow_add]

theorem halves_near (v : Nat) (n m : Bool) (E U : Int) (hv : W2 v) (e0 : -4096 ≤ E) (e1 : E ≤ 4096) (u0 : -4500 ≤ U) (u1 : U ≤ 5000) (hB : (Go.bitLen v : Int) + E ≤ U + 60) :
    ∃ (N : Nat) (lost : Bool), N < 4611686018427387904 ∧ pick N lost = near ((2 * v + m.toNat) * 2 ^ (E + 4999).toNat) (2 ^ (U + 5000).toNat) ∧
      ∀ W : World, Calls Tryd.prog 77 #[.agg #[.bool n, .int .u64 (hi v), .int .u64 (lo v), .int .i64 E, .bool m], .int .i64 U] W fun r W' => r = .returned (.tuple #[.int .u64 (N : Int), .bool lost]) ∧ Below W.heap.size W W' := by
  have hm : m.toNat ≤ 1 := by cases m <;> simp
  have hm1 : m.toNat = 1 ↔ m = true := by cases m <;> simp
  by_cases g : E < U
  · obtain ⟨j, hj⟩ : ∃ j : Nat, U - E - 1 = j := ⟨(U - E - 1).toNat, by omega⟩
    have hN : v / 2 ^ j < 2 ^ 61 := by
      rw [Nat.div_lt_iff_lt_mul (Nat.two_pow_pos j), ← Nat.pow_add]
      exact bl_lt (by omega)
    refine ⟨v / 2 ^ j, lostB v j || m, by omega, ?_, ?_⟩
    · rw [pow_split2 (U + 5000).toNat (j + 2) (E + 4999).toNat (by omega), near_scale _ _ _ (Nat.two_pow_pos _), near_halves v m.toNat j _ _ hm rfl rfl]
      unfold pick
      have : ((lostB v j || m) = true) = (v % 2 ^ j ≠ 0 ∨ m.toNat = 1) := by
        unfold lostB
        rw [hm1, Int.toNat_natCast]
        simp
      simp only [this]
    · intro W
      have k1 : IntKind.i64.wrap (U - E) = U - E := i64_id (by omega) (by omega)
      have k2 : IntKind.i64.wrap (U - E - 1) = U - E - 1 := i64_id (by omega) (by omega)
      have hr := fun W => right_n v (U - E - 1) W hv
      have el : lo (shrN v (U - E - 1)) = ((v / 2 ^ j : Nat) : Int) := by
        unfold shrN
        rw [hj, Int.toNat_natCast, lo_small (by omega)]
      rw [← el, ← hj]
      cases hl : lostB v (U - E - 1)
      · rw [hl] at hr
        exact halves_gf W (hide hr) g k1 k2
      · rw [hl] at hr
        exact halves_gt W (hide hr) g k1 k2
  · obtain ⟨k, hk⟩ : ∃ k : Nat, E - U = k := ⟨(E - U).toNat, by omega⟩
    have hbl : Go.bitLen v + k ≤ 60 := by omega
    have hvl := bl_lt (x := v) (k := Go.bitLen v) (Nat.le_refl _)
    have hv60 : v < 2 ^ 60 := bl_lt (by omega)
    have hN : (2 * v + m.toNat) * 2 ^ k < 2 ^ 61 := by
      have h1 : (2 * v + m.toNat) * 2 ^ k < 2 ^ (Go.bitLen v + 1) * 2 ^ k := Nat.mul_lt_mul_of_pos_right (by rw [Nat.pow_succ]; omega) (Nat.two_pow_pos k)
      rw [← Nat.pow_add] at h1
      exact Nat.lt_of_lt_of_le h1 (Nat.pow_le_pow_right (by omega) (by omega))
    refine ⟨(2 * v + m.toNat) * 2 ^ k, false, by omega, ?_, ?_⟩
    · rw [pow_split2 (U + 5000).toNat 1 (U + 4999).toNat (by omega), pow_split2 (E + 4999).toNat k (U + 4999).toNat (by omega), ← Nat.mul_assoc, near_scale _ _ _ (Nat.two_pow_pos _), Nat.pow_one, near_two]
      unfold pick
      simp
    · intro W
      have k1 : IntKind.i64.wrap (E - U) = E - U := i64_id (by omega) (by omega)
      have h1 := fun W => left_n v 1 W hv
      have es : shlN v 1 = 2 * v := by
        unfold shlN
        rw [show (1 : Int).toNat = 1 from rfl, Nat.mod_eq_of_lt (by omega)]
        omega
      rw [es] at h1
      have hw : W2 (2 * v + m.toNat) := by unfold W2; omega
      have h2 := fun W => left_n (2 * v + m.toNat) (E - U) W hw
      have es2 : shlN (2 * v + m.toNat) (E - U) = (2 * v + m.toNat) * 2 ^ k := by
        unfold shlN
        rw [hk, Int.toNat_natCast, Nat.mod_eq_of_lt (by omega)]
      have el : lo (shlN (2 * v + m.toNat) (E - U)) = (((2 * v + m.toNat) * 2 ^ k : Nat) : Int) := by
        rw [es2, lo_small (by omega)]
      rw [← el]
      cases m
      · exact halves_lf W (hide h1) (hide h2) g k1
      · have eh : hi (2 * v + Bool.toNat true) = hi (2 * v) := by unfold hi; simp; omega
        have el' : lo (2 * v + Bool.toNat true) = lo (2 * v) + 1 := by unfold lo; simp; omega
        rw [eh, el'] at h2
        exact halves_lt W (hide h1) (hide h2) g k1 (or_sum 1 (lo (2 * v)) 1 (lo_0 _) (lo_1 _) (by unfold lo; simp) (by omega) (by simp) (by omega))

end Go.Proofs.YtahdcbjfabccpaaDoor
namespace Go.Proofs.YtahdcbjfabccpaaDoor
open Go.RowKit
open Go.Proofs.YtahdcbjfabccpaaDoor.W

/-- An exponent, brought near. -/
def cap (X : Int) : Int := if X < -4096 then -4096 else if 4096 < X then 4096 else X
theorem cap_in (X : Int) : -4096 ≤ cap X ∧ cap X ≤ 4096 := by unfold cap; split <;> (try split) <;> omega
/-- The least floats' last bit, 5000 bits up. -/
def lowN (f b : Int) : Nat := (5001 - b - f).toNat
/-- A code, no more than the infinite one's. -/
def lid (P Q c : Int) : Int := if (Q - 1) * P ≤ c then (Q - 1) * P else c
/-- The float of a code and a sign. -/
def fl (f P Q : Int) (n : Bool) (c : Int) : Int := put f P Q n (c / P) (c % P)
/-- The number (2 · v + m) · 2^(X - 1), 5000 bits up. -/
def num (v : Nat) (m : Bool) (X : Int) : Nat := (2 * v + m.toNat) * 2 ^ (X + 4999).toNat

theorem fl_eq {f P Q c x y : Int} (n : Bool) (h1 : c / P = x) (h2 : c % P = y) : fl f P Q n c = put f P Q n x y := by unfold fl; rw [h1, h2]

set_option maxHeartbeats 1000000 in
theorem float_known {w e f P Q b h l E : Int} (k : Kd w e f P Q b) (n m : Bool) (s : Nat) (U : Int) (hs : (s : Int) ≤ 2 * P) (hd : 1 - b - f < U → P ≤ (s : Int)) (hL : 1 - b - f ≤ U) (u1 : U ≤ 10000) (W : World) :
    Calls Tryd.prog 78 #[.agg #[.bool n, .int .u64 h, .int .u64 l, .int .i64 E, .bool m, .int .i64 w, .int .i64 f, .int .i64 (1 - b - f), .int .i64 (Q - 2 - b - f)], .int .u64 (s : Int), .int .i64 U] W fun r W' => r = .returned (.int .u64 (fl f P Q n (lid P Q ((U - (1 - b - f)) * P + (s : Int))))) ∧ Below W.heap.size W W' := by
  have HZ := hide (fun W => zero_any n k.wd W)
  have HI := hide (fun W => inf_any n k.wd W)
  have HC := fun (X S V c : Int) (s0 : 0 ≤ S) (s1 : S < 18446744073709551616) (hc : ClosedF f P Q b n X S V c) => hide (fun W => close_any (K := 1) W k s0 s1 (Or.inl ⟨rfl, hc⟩))
  unfold ClosedF at HC
  have g0 : 0 ≤ f := by rcases k with k | k <;> omega
  have g1 : f ≤ 63 := by rcases k with k | k <;> omega
  have hP : (2 : Int) ^ f.toNat = P := by rcases k with ⟨_, _, rfl, rfl, _⟩ | ⟨_, _, rfl, rfl, _⟩ <;> rfl
  have kd : (s : Int) / 2 ^ f.toNat = (s : Int) / P := by rw [hP]
  have ku : IntKind.i64.wrap (U + 1) = U + 1 := i64_id (by rcases k with k | k <;> omega) (by omega)
  rcases k with ⟨rfl, rfl, rfl, rfl, rfl, rfl⟩ | ⟨rfl, rfl, rfl, rfl, rfl, rfl⟩
  · unfold lid
    by_cases hb : 1 < (s : Int) / 8388608
    · by_cases g : 256 - 2 - 127 - 23 < U + 1
      · rw [if_pos (by omega), fl_eq n (x := 256 - 1) (y := 0) (by rfl) (by rfl)]
        exact float_bi W g0 g1 kd hb rfl ku (eq_f (by omega)) (dt g) HI
      · rw [if_neg (by omega), fl_eq n (x := U + 1 + 127 + 23) (y := 0) (by omega) (by omega)]
        exact float_bc W g0 g1 kd hb rfl ku (eq_f (by omega)) (df g) (HC (U + 1) _ _ 0 (by omega) (by omega) (Or.inr (Or.inl ⟨by omega, by omega, by omega, by omega, by rw [show (s : Int) / 2 % 8388608 = 0 by omega], rfl⟩)))
    · by_cases hz : (s : Int) = 0
      · rw [if_neg (by omega), fl_eq n (x := 0) (y := 0) (by omega) (by omega)]
        exact float_sz W g0 g1 kd hb (eq_t hz) HZ
      · by_cases g : 256 - 2 - 127 - 23 < U
        · rw [if_pos (by omega), fl_eq n (x := 256 - 1) (y := 0) (by rfl) (by rfl)]
          exact float_si W g0 g1 kd hb (eq_f hz) (dt g) HI
        · rw [if_neg (by omega)]
          by_cases ht : (s : Int) < 8388608
          · rw [fl_eq n (x := 0) (y := (s : Int) % 8388608) (by omega) (by omega)]
            exact float_sc W g0 g1 kd hb (eq_f hz) (df g) (HC U _ _ 0 (by omega) (by omega) (Or.inl ⟨ht, hz, by omega, rfl, rfl⟩))
          · rw [fl_eq n (x := U + 127 + 23) (y := (s : Int) % 8388608) (by omega) (by omega)]
            exact float_sc W g0 g1 kd hb (eq_f hz) (df g) (HC U _ _ 0 (by omega) (by omega) (Or.inr (Or.inl ⟨by omega, by omega, by omega, by omega, rfl, rfl⟩)))
  · unfold lid
    by_cases hb : 1 < (s : Int) / 4503599627370496
    · by_cases g : 2048 - 2 - 1023 - 52 < U + 1
      · rw [if_pos (by omega), fl_eq n (x := 2048 - 1) (y := 0) (by rfl) (by rfl)]
        exact float_bi W g0 g1 kd hb rfl ku (eq_f (by omega)) (dt g) HI
      · rw [if_neg (by omega), fl_eq n (x := U + 1 + 1023 + 52) (y := 0) (by omega) (by omega)]
        exact float_bc W g0 g1 kd hb rfl ku (eq_f (by omega)) (df g) (HC (U + 1) _ _ 0 (by omega) (by omega) (Or.inr (Or.inl ⟨by omega, by omega, by omega, by omega, by rw [show (s : Int) / 2 % 4503599627370496 = 0 by omega], rfl⟩)))
    · by_cases hz : (s : Int) = 0
      · rw [if_neg (by omega), fl_eq n (x := 0) (y := 0) (by omega) (by omega)]
        exact float_sz W g0 g1 kd hb (eq_t hz) HZ
      · by_cases g : 2048 - 2 - 1023 - 52 < U
        · rw [if_pos (by omega), fl_eq n (x := 2048 - 1) (y := 0) (by rfl) (by rfl)]
          exact float_si W g0 g1 kd hb (eq_f hz) (dt g) HI
        · rw [if_neg (by omega)]
          by_cases ht : (s : Int) < 4503599627370496
          · rw [fl_eq n (x := 0) (y := (s : Int) % 4503599627370496) (by omega) (by omega)]
            exact float_sc W g0 g1 kd hb (eq_f hz) (df g) (HC U _ _ 0 (by omega) (by omega) (Or.inl ⟨ht, hz, by omega, rfl, rfl⟩))
          · rw [fl_eq n (x := U + 1023 + 52) (y := (s : Int) % 4503599627370496) (by omega) (by omega)]
            exact float_sc W g0 g1 kd hb (eq_f hz) (df g) (HC U _ _ 0 (by omega) (by omega) (Or.inr (Or.inl ⟨by omega, by omega, by omega, by omega, rfl, rfl⟩)))

/-- Of another width all floats are 0. -/
theorem float_no {w e f P Q b h l E : Int} (k : Wd w e f P Q b) (hf : f = 0) (n m : Bool) (s : Nat) (U : Int) (u0 : -10000 ≤ U) (u1 : U ≤ 10000) (W : World) :
    Calls Tryd.prog 78 #[.agg #[.bool n, .int .u64 h, .int .u64 l, .int .i64 E, .bool m, .int .i64 w, .int .i64 0, .int .i64 0, .int .i64 0], .int .u64 (s : Int), .int .i64 U] W fun r W' => r = .returned (.int .u64 0) ∧ Below W.heap.size W W' := by
  have p0 : ∀ (x y : Int), put f P Q n x y = 0 := fun x y => by unfold put; rw [if_pos hf]
  have HZ := hide (fun W => zero_any n k W)
  have HI := hide (fun W => inf_any n k W)
  rw [p0] at HZ HI
  have HC := fun (X S : Int) => hide (fun W => close_no (K := 1) (X := X) (S := S) (n := n) W k (ne_f hf))
  have kd : (s : Int) / 2 ^ (0 : Int).toNat = (s : Int) := by simp
  have ku : IntKind.i64.wrap (U + 1) = U + 1 := i64_id (by omega) (by omega)
  by_cases hb : 1 < (s : Int)
  · by_cases g : 0 < U + 1
    · exact float_bi W (by omega) (by omega) kd hb rfl ku (eq_f (by omega)) (dt g) HI
    · exact float_bc W (by omega) (by omega) kd hb rfl ku (eq_f (by omega)) (df g) (HC _ _)
  · by_cases hz : (s : Int) = 0
    · exact float_sz W (by omega) (by omega) kd hb (eq_t hz) HZ
    · by_cases g : 0 < U
      · exact float_si W (by omega) (by omega) kd hb (eq_f hz) (dt g) HI
      · exact float_sc W (by omega) (by omega) kd hb (eq_f hz) (df g) (HC _ _)

theorem Kd.pow {w e f P Q b : Int} (k : Kd w e f P Q b) : P = ((2 ^ f.toNat : Nat) : Int) ∧ 0 ≤ f ∧ f ≤ 52 ∧ -1074 ≤ 1 - b - f ∧ 1 - b - f ≤ 0 ∧ 127 ≤ b ∧ b ≤ 1023 := by
  rcases k with ⟨_, _, rfl, rfl, _, rfl⟩ | ⟨_, _, rfl, rfl, _, rfl⟩ <;> exact ⟨rfl, by omega, by omega, by omega, by omega, by omega, by omega⟩

theorem num_len (v : Nat) (m : Bool) (E : Int) (h : ¬ (v = 0 ∧ m = false)) : Go.bitLen (num v m E) = (E + 4999).toNat + (Go.bitLen v + 1) := by
  have hm : m.toNat ≤ 1 := by cases m <;> simp
  have hne : 2 * v + m.toNat ≠ 0 := by cases m <;> simp at h ⊢ <;> omega
  unfold num
  rw [bl_shl _ _ hne, bl_two v m.toNat hm hne]

set_option maxHeartbeats 1000000 in
theorem nearest_known {w e f P Q b : Int} (v : Nat) (n m : Bool) (E : Int) (k : Kd w e f P Q b) (hv : W2 v) (e0 : -4096 ≤ E) (e1 : E ≤ 4096) (W : World) :
    Calls Tryd.prog 71 #[.agg #[.bool n, .int .u64 (hi v), .int .u64 (lo v), .int .i64 E, .bool m, .int .i64 w, .int .i64 f, .int .i64 (1 - b - f), .int .i64 (Q - 2 - b - f)]] W fun r W' => r = .returned (.int .u64 (fl f P Q n (lid P Q (code f.toNat (lowN f b) (num v m E) : Nat)))) ∧ Below W.heap.size W W' := by
  have HN := hide (fun W => isNought_any v E n m W)
  obtain ⟨hP, f0, f1, l0, l1, b0, b1⟩ := k.pow
  by_cases hz : v = 0 ∧ m = false
  · obtain ⟨rfl, rfl⟩ := hz
    have : num 0 false E = 0 := by unfold num; simp
    rw [this, code_zero]
    have hq : ¬ (Q - 1) * P ≤ ((0 : Nat) : Int) := by rcases k with ⟨_, _, _, rfl, rfl, _⟩ | ⟨_, _, _, rfl, rfl, _⟩ <;> omega
    unfold lid
    rw [if_neg hq, fl_eq n (x := 0) (y := 0) (by simp) (by simp)]
    exact nearest_z W HN (hide (fun W => zero_any n k.wd W))
  · have hNv : (decide (v = 0) && !m) = false := by cases m <;> simp at hz ⊢; exact hz
    rw [hNv] at HN
    have hbl : Go.bitLen v ≤ 128 := bitLen_128 hv
    have hl := num_len v m E hz
    have HT := hide (fun W => top_l (n := n) (m := m) W (hide (fun W => len_n v W hv)) (i64_id (x := E + (Go.bitLen v : Int)) (by omega) (by omega)) (i64_id (by omega) (by omega)))
    obtain ⟨U, hU⟩ : ∃ U : Int, U = if E + (Go.bitLen v : Int) - 1 - f < 1 - b - f then 1 - b - f else E + (Go.bitLen v : Int) - 1 - f := ⟨_, rfl⟩
    have hU1 : 1 - b - f ≤ U ∧ E + (Go.bitLen v : Int) - 1 - f ≤ U ∧ U ≤ 5000 := by rw [hU]; split <;> omega
    have hu : unitOf f.toNat (lowN f b) (num v m E) = (U + 5000).toNat := by
      unfold unitOf lowN
      rw [hl, hU]
      split <;> omega
    obtain ⟨N, lost, hN, hp, hH⟩ := halves_near v n m E U hv e0 e1 (by omega) (by omega) (by omega)
    have hup := unit_up f.toNat (lowN f b) (num v m E)
    have hdn := fun h => unit_dn (f := f.toNat) (L := lowN f b) (X := num v m E) h
    have hcode : ((code f.toNat (lowN f b) (num v m E) : Nat) : Int) = (U - (1 - b - f)) * P + (near (num v m E) (2 ^ (U + 5000).toNat) : Nat) := by
      unfold code
      rw [hu, hP, show (U - (1 - b - f)) = (((U + 5000).toNat - lowN f b : Nat) : Int) by unfold lowN; omega]
      simp
    rw [hu] at hup hdn
    change pick N lost = near (num v m E) _ at hp
    generalize hsg : near (num v m E) (2 ^ (U + 5000).toNat) = s at *
    rw [hcode]
    refine nearest_pick (T := E + (Go.bitLen v : Int) - 1) (U := U) (N := N) (s := s) (lost := lost) W HN HT (by omega) (by omega) f0 (by omega) hU hN hp (hide hH) (hide (fun W => float_known k n m s U ?_ ?_ hU1.1 (by omega) W))
    · rw [hP]; omega
    · intro hlt
      rw [hP]
      have := hdn (by unfold lowN; omega)
      omega

set_option maxHeartbeats 1000000 in
theorem nearest_no {w e f P Q b : Int} (v : Nat) (n m : Bool) (E : Int) (k : Wd w e f P Q b) (hf : f = 0) (hv : W2 v) (e0 : -4096 ≤ E) (e1 : E ≤ 4096) (W : World) :
    Calls Tryd.prog 71 #[.agg #[.bool n, .int .u64 (hi v), .int .u64 (lo v), .int .i64 E, .bool m, .int .i64 w, .int .i64 0, .int .i64 0, .int .i64 0]] W fun r W' => r = .returned (.int .u64 0) ∧ Below W.heap.size W W' := by
  have HN := hide (fun W => isNought_any v E n m W)
  by_cases hz : v = 0 ∧ m = false
  · obtain ⟨rfl, rfl⟩ := hz
    have p0 : put f P Q n 0 0 = 0 := by unfold put; rw [if_pos hf]
    have HZ := hide (fun W => zero_any n k W)
    rw [p0] at HZ
    exact nearest_z W HN HZ
  · have hNv : (decide (v = 0) && !m) = false := by cases m <;> simp at hz ⊢; exact hz
    rw [hNv] at HN
    have hbl : Go.bitLen v ≤ 128 := bitLen_128 hv
    have HT := hide (fun W => top_l (n := n) (m := m) W (hide (fun W => len_n v W hv)) (i64_id (x := E + (Go.bitLen v : Int)) (by omega) (by omega)) (i64_id (by omega) (by omega)))
    obtain ⟨U, hU⟩ : ∃ U : Int, U = if E + (Go.bitLen v : Int) - 1 - 0 < 0 then 0 else E + (Go.bitLen v : Int) - 1 - 0 := ⟨_, rfl⟩
    have hU1 : 0 ≤ U ∧ E + (Go.bitLen v : Int) - 1 ≤ U ∧ U ≤ 5000 := by rw [hU]; split <;> omega
    obtain ⟨N, lost, hN, hp, hH⟩ := halves_near v n m E U hv e0 e1 (by omega) (by omega) (by omega)
    exact nearest_pick (T := E + (Go.bitLen v : Int) - 1) (U := U) (N := N) (lost := lost) W HN HT (by omega) (by omega) (by omega) (by omega) hU hN rfl (hide hH) (hide (fun W => float_no k hf n m _ U (by omega) (by omega) W))

theorem floatsOf_known {w e f P Q b : Int} (k : Kd w e f P Q b) (W : World) :
    Calls Tryd.prog 70 #[.int .i64 w] W fun r W' => r = .returned (.agg #[.int .i64 w, .int .i64 f, .int .i64 (1 - b - f), .int .i64 (Q - 2 - b - f)]) ∧ Below W.heap.size W W' := by
  have HF := hide (fun W => fields_any k.wd W)
  have HM := hide (fun W => most_w false k.wd W)
  have hm : put f P Q false (Q - 2) (P - 1) = (Q - 2) * P + (P - 1) := put_no k.f0
  rw [hm] at HM
  have ho1 : Opened f P Q b (sg P Q 1) (1 / P % Q) (1 % P) false 1 (1 - b - f) 1 := by
    unfold Opened sg
    rcases k with ⟨rfl, rfl, rfl, rfl, rfl, rfl⟩ | ⟨rfl, rfl, rfl, rfl, rfl, rfl⟩ <;> simp
  have ho2 : Opened f P Q b (sg P Q ((Q - 2) * P + (P - 1))) (((Q - 2) * P + (P - 1)) / P % Q) (((Q - 2) * P + (P - 1)) % P) false 1 (Q - 2 - b - f) (2 * P - 1) := by
    unfold Opened sg
    rcases k with ⟨rfl, rfl, rfl, rfl, rfl, rfl⟩ | ⟨rfl, rfl, rfl, rfl, rfl, rfl⟩ <;> simp
  have hr : 0 ≤ (Q - 2) * P + (P - 1) ∧ (Q - 2) * P + (P - 1) < 18446744073709551616 := by
    rcases k with ⟨rfl, rfl, rfl, rfl, rfl, rfl⟩ | ⟨rfl, rfl, rfl, rfl, rfl, rfl⟩ <;> omega
  exact floatsOf_l W HF (hide (fun W => open_any 1 k.wd W (by omega) (by omega) ho1)) HM (hide (fun W => open_any _ k.wd W hr.1 hr.2 ho2))

theorem floatsOf_no {w e f P Q b : Int} (k : Wd w e f P Q b) (hf : f = 0) (W : World) :
    Calls Tryd.prog 70 #[.int .i64 w] W fun r W' => r = .returned (.agg #[.int .i64 w, .int .i64 0, .int .i64 0, .int .i64 0]) ∧ Below W.heap.size W W' := by
  have HF := hide (fun W => fields_any k W)
  have HM := hide (fun W => most_w false k W)
  have hm : put f P Q false (Q - 2) (P - 1) = 0 := by unfold put; rw [if_pos hf]
  rw [hm] at HM
  have ho : ∀ x, Opened f P Q b (sg P Q x) (x / P % Q) (x % P) false 0 0 0 := fun x => Or.inl ⟨hf, rfl, rfl, rfl, rfl⟩
  rw [hf] at HF
  exact floatsOf_l W HF (hide (fun W => open_any 1 k W (by omega) (by omega) (ho 1))) HM (hide (fun W => open_any 0 k W (by omega) (by omega) (ho 0)))

/-- Pack: the float of the number's code. -/
theorem pack_known {w e f P Q b : Int} (v : Nat) (n m : Bool) (X : Int) (k : Kd w e f P Q b) (hv : W2 v) (W : World) :
    Calls Tryd.prog 57 #[.int .i64 w, .bool n, .agg #[.int .u64 (hi v), .int .u64 (lo v)], .int .i64 X, .bool m] W fun r W' => r = .returned (.int .u64 (fl f P Q n (lid P Q (code f.toNat (lowN f b) (num v m (cap X)) : Nat)))) ∧ Below W.heap.size W W' := by
  obtain ⟨c0, c1⟩ := cap_in X
  have HO := hide (fun W => floatsOf_known k W)
  have HN := hide (fun W => nearest_known v n m (cap X) k hv c0 c1 W)
  by_cases h1 : X < -4096
  · have : cap X = -4096 := by unfold cap; rw [if_pos h1]
    rw [this] at HN ⊢
    exact pack_l W h1 HO HN
  · by_cases h2 : 4096 < X
    · have : cap X = 4096 := by unfold cap; rw [if_neg h1, if_pos h2]
      rw [this] at HN ⊢
      exact pack_h W h1 h2 HO HN
    · have : cap X = X := by unfold cap; rw [if_neg h1, if_neg h2]
      rw [this] at HN ⊢
      exact pack_m W h1 h2 HO HN
theorem pack_no {w e f P Q b : Int} (v : Nat) (n m : Bool) (X : Int) (k : Wd w e f P Q b) (hf : f = 0) (hv : W2 v) (W : World) :
    Calls Tryd.prog 57 #[.int .i64 w, .bool n, .agg #[.int .u64 (hi v), .int .u64 (lo v)], .int .i64 X, .bool m] W fun r W' => r = .returned (.int .u64 0) ∧ Below W.heap.size W W' := by
  obtain ⟨c0, c1⟩ := cap_in X
  have HO := hide (fun W => floatsOf_no k hf W)
  have HN := hide (fun W => nearest_no v n m (cap X) k hf hv c0 c1 W)
  by_cases h1 : X < -4096
  · have : cap X = -4096 := by unfold cap; rw [if_pos h1]
    rw [this] at HN
    exact pack_l W h1 HO HN
  · by_cases h2 : 4096 < X
    · have : cap X = 4096 := by unfold cap; rw [if_neg h1, if_pos h2]
      rw [this] at HN
      exact pack_h W h1 h2 HO HN
    · have : cap X = X := by unfold cap; rw [if_neg h1, if_neg h2]
      rw [this] at HN
      exact pack_m W h1 h2 HO HN

end Go.Proofs.YtahdcbjfabccpaaDoor
namespace Go.Proofs.YtahdcbjfabccpaaDoor
open Go.RowKit
open Go.Proofs.YtahdcbjfabccpaaDoor.W

set_option maxRecDepth 100000 in
set_option maxHeartbeats 1000000 in
theorem narrow_zero {w K X S V : Int} {n : Bool} (W : World) (k0 : (K == 0) = true) (HC : Ct 56 #[.int .i64 w, .bool n] (.int .u64 V)) :
    Calls Tryd.prog 29 #[.int .i64 w, .agg #[.bool n, .int .i64 K, .int .i64 X, .int .u64 S]] W fun r W' => r = .returned (.int .u64 V) ∧ Below W.heap.size W W' := by
  go_enter Tryd.func29, Tryd.ntmps29
  go_wp2_with fail
  refine (unhide HC _).mono ?_
  rintro _ w1 ⟨rfl, hb⟩
  have HB := hide (bthen (below1 _ _) hb)
  clear hb
  go_wp2_with fail
  go_ret
  exact ⟨rfl, unhide HB⟩
set_option maxRecDepth 100000 in
set_option maxHeartbeats 1000000 in
theorem narrow_inf {w K X S V : Int} {n : Bool} (W : World) (k0 : (K == 0) = false) (k1 : (K == 1) = false) (k2 : (K == 2) = true) (HC : Ct 59 #[.int .i64 w, .bool n] (.int .u64 V)) :
    Calls Tryd.prog 29 #[.int .i64 w, .agg #[.bool n, .int .i64 K, .int .i64 X, .int .u64 S]] W fun r W' => r = .returned (.int .u64 V) ∧ Below W.heap.size W W' := by
  go_enter Tryd.func29, Tryd.ntmps29
  go_wp2_with fail
  refine (unhide HC _).mono ?_
  rintro _ w1 ⟨rfl, hb⟩
  have HB := hide (bthen (below1 _ _) hb)
  clear hb
  go_wp2_with fail
  go_ret
  exact ⟨rfl, unhide HB⟩
set_option maxRecDepth 100000 in
set_option maxHeartbeats 1000000 in
theorem narrow_nan {w K X S V : Int} {n : Bool} (W : World) (k0 : (K == 0) = false) (k1 : (K == 1) = false) (k2 : (K == 2) = false) (k3 : (K == 3) = true) (HC : Ct 15 #[.int .i64 w] (.int .u64 V)) :
    Calls Tryd.prog 29 #[.int .i64 w, .agg #[.bool n, .int .i64 K, .int .i64 X, .int .u64 S]] W fun r W' => r = .returned (.int .u64 V) ∧ Below W.heap.size W W' := by
  go_enter Tryd.func29, Tryd.ntmps29
  go_wp2_with fail
  refine (unhide HC _).mono ?_
  rintro _ w1 ⟨rfl, hb⟩
  have HB := hide (bthen (below1 _ _) hb)
  clear hb
  go_wp2_with fail
  go_ret
  exact ⟨rfl, unhide HB⟩
set_option maxRecDepth 100000 in
set_option maxHeartbeats 1000000 in
theorem narrow_oth {w K X S : Int} {n : Bool} (W : World) (k0 : (K == 0) = false) (k1 : (K == 1) = false) (k2 : (K == 2) = false) (k3 : (K == 3) = false) :
    Calls Tryd.prog 29 #[.int .i64 w, .agg #[.bool n, .int .i64 K, .int .i64 X, .int .u64 S]] W fun r W' => r = .returned (.int .u64 0) ∧ Below W.heap.size W W' := by
  go_enter Tryd.func29, Tryd.ntmps29
  go_wp2_with fail
  go_ret
  exact ⟨rfl, below1 _ _⟩
set_option maxRecDepth 100000 in
set_option maxHeartbeats 1000000 in
theorem narrow_fin {w K X S h l V : Int} {n : Bool} (W : World) (k0 : (K == 0) = false) (k1 : (K == 1) = true) (HO : Ct 58 #[.int .u64 S] (.agg #[.int .u64 h, .int .u64 l])) (HP : Ct 57 #[.int .i64 w, .bool n, .agg #[.int .u64 h, .int .u64 l], .int .i64 X, .bool false] (.int .u64 V)) :
    Calls Tryd.prog 29 #[.int .i64 w, .agg #[.bool n, .int .i64 K, .int .i64 X, .int .u64 S]] W fun r W' => r = .returned (.int .u64 V) ∧ Below W.heap.size W W' := by
  go_enter Tryd.func29, Tryd.ntmps29
  go_wp2_with fail
  have HB := hide ((below1 W (.cells #[.bool n, .int .i64 K, .int .i64 X, .int .u64 S] 52)).drew)
  have HA := hide ((at4_new W (.bool n) (.int .i64 K) (.int .i64 X) (.int .u64 S) 52).below ((Below.refl _ _).drew))
  refine wp_region_held_drew (S := fun w' => w'.cell? ⟨W.heap.size, 0, none⟩ = some (.bool n) ∧ w'.cell? ⟨W.heap.size, 1, none⟩ = some (.int .i64 K) ∧ w'.cell? ⟨W.heap.size, 2, none⟩ = some (.int .i64 X) ∧ w'.cell? ⟨W.heap.size, 3, none⟩ = some (.int .u64 S)) (by kernel_rfl) ?_ (fun hHeld => ?_)
  · (try dsimp only)
    exact unhide HA
  refine lst0 10 (by kernel_rfl) ?_
  refine tkA 0 15 1 ?_
  refine tkA 1 16 3 ?_
  refine tkA 2 17 7 ?_
  refine tkA 3 18 15 ?_
  refine tkA 4 19 31 ?_
  refine tkA 6 21 95 ?_
  refine tkA 7 22 223 ?_
  refine rdA 5 255 (fun Kk hKk => ?_)
  go_simp
  refine (unhide HO _).mono ?_
  rintro _ w1 ⟨rfl, hbl⟩
  have HB := hide (bthen (unhide HB) hbl)
  have HA := hide ((unhide HA).below hbl)
  clear hbl
  (try go_wp2_with fail)
  refine hKk.out _ _ ?_ (fun hHeld => ?_)
  · (try dsimp only)
    exact unhide HA
  clear hKk Kk
  (try simp only [List.setIfInBounds_toArray, List.set_cons_zero, List.set_cons_succ])
  refine rdA 8 511 (fun Kk hKk => ?_)
  go_simp
  refine (unhide HP _).mono ?_
  rintro _ w2 ⟨rfl, hbl⟩
  have HB := hide (bthen (unhide HB) hbl)
  have HA := hide ((unhide HA).below hbl)
  clear hbl
  (try go_wp2_with fail)
  refine hKk.out _ _ ?_ (fun hHeld => ?_)
  · (try dsimp only)
    exact unhide HA
  clear hKk Kk
  (try simp only [List.setIfInBounds_toArray, List.set_cons_zero, List.set_cons_succ])
  refine tkA 9 4 1023 ?_
  refine wpAnyH_done (by kernel_rfl) ?_ _
  go_wp2
  go_ret
  exact ⟨rfl, unhide HB⟩

theorem kd_32 : Kd 32 8 23 8388608 256 127 := Or.inl ⟨rfl, rfl, rfl, rfl, rfl, rfl⟩
theorem kd_64 : Kd 64 11 52 4503599627370496 2048 1023 := Or.inr ⟨rfl, rfl, rfl, rfl, rfl, rfl⟩
end Go.Proofs.YtahdcbjfabccpaaDoor
namespace Go.Proofs.YtahdcbjfabccpaaDoor
open Go.RowKit
open Go.Proofs.YtahdcbjfabccpaaDoor.W

theorem num_exact (s j : Nat) (E : Int) (h : -4999 ≤ E - j) : num (s * 2 ^ j) false (E - j) = s * 2 ^ (E + 5000).toNat := by
  unfold num
  rw [show 2 * (s * 2 ^ j) + Bool.toNat false = s * 2 ^ j * 2 ^ 1 by simp; omega, Nat.mul_assoc, Nat.mul_assoc, ← Nat.pow_add, ← Nat.pow_add, show j + (1 + (E - j + 4999).toNat) = (E + 5000).toNat by omega]
theorem num_plain (s : Nat) (E : Int) (h : -4999 ≤ E) : num s false E = s * 2 ^ (E + 5000).toNat := by
  have := num_exact s 0 E (by omega)
  simpa using this

theorem cap_id {X : Int} (h0 : -4096 ≤ X) (h1 : X ≤ 4096) : cap X = X := by
  unfold cap
  rw [if_neg (by omega), if_neg (by omega)]

end Go.Proofs.YtahdcbjfabccpaaDoor
namespace Go.Proofs.YtahdcbjfabccpaaDoor
open Go.RowKit
open Go.Proofs.YtahdcbjfabccpaaDoor.W

theorem small_w2 {x : Int} (x0 : 0 ≤ x) (x1 : x < 18446744073709551616) : W2 x.toNat := by unfold W2; omega
/-- What parts are narrowed to. -/
def narrowN (f P Q b : Int) (n : Bool) (K X S : Int) : Int :=
  if K = 0 then put f P Q n 0 0 else if K = 1 then fl f P Q n (lid P Q (code f.toNat (lowN f b) (num S.toNat false (cap X)) : Nat)) else if K = 2 then put f P Q n (Q - 1) 0 else if K = 3 then put f P Q false (Q - 1) (P / 2) else 0

theorem narrow_any {w e f P Q b : Int} (k : Kd w e f P Q b) (n : Bool) (K X S : Int) (s0 : 0 ≤ S) (s1 : S < 18446744073709551616) (W : World) :
    Calls Tryd.prog 29 #[.int .i64 w, .agg #[.bool n, .int .i64 K, .int .i64 X, .int .u64 S]] W fun r W' => r = .returned (.int .u64 (narrowN f P Q b n K X S)) ∧ Below W.heap.size W W' := by
  unfold narrowN
  by_cases k0 : K = 0
  · rw [if_pos k0]
    exact narrow_zero W (eq_t k0) (hide (fun W => zero_any n k.wd W))
  · rw [if_neg k0]
    by_cases k1 : K = 1
    · rw [if_pos k1]
      exact narrow_fin W (eq_f k0) (eq_t k1) (hide (fun W => of_n S W s0 s1)) (hide (fun W => pack_known S.toNat n false X k (small_w2 s0 s1) W))
    · rw [if_neg k1]
      by_cases k2 : K = 2
      · rw [if_pos k2]
        exact narrow_inf W (eq_f k0) (eq_f k1) (eq_t k2) (hide (fun W => inf_any n k.wd W))
      · rw [if_neg k2]
        by_cases k3 : K = 3
        · rw [if_pos k3]
          exact narrow_nan W (eq_f k0) (eq_f k1) (eq_f k2) (eq_t k3) (hide (fun W => nan_any k.wd W))
        · rw [if_neg k3]
          exact narrow_oth W (eq_f k0) (eq_f k1) (eq_f k2) (eq_f k3)
end Go.Proofs.YtahdcbjfabccpaaDoor
namespace Go.Proofs.YtahdcbjfabccpaaDoor
open Go.RowKit
open Go.Proofs.YtahdcbjfabccpaaDoor.W

/-- The number of a float's parts, 5000 bits up. -/
def mag (X S : Int) : Nat := S.toNat * 2 ^ (X + 5000).toNat
/-- The float that is nearest to a number. -/
def rd (f P Q b : Int) (n : Bool) (M : Nat) : Int := fl f P Q n (lid P Q (code f.toNat (lowN f b) M : Nat))
/-- The sum of two floats that are taken apart. -/
def addP (f P Q b : Int) (n1 : Bool) (K1 : Int) (M1 : Nat) (n2 : Bool) (K2 : Int) (M2 : Nat) : Int :=
  if K1 = 3 ∨ K2 = 3 ∨ (K1 = 2 ∧ K2 = 2 ∧ n1 ≠ n2) then put f P Q false (Q - 1) (P / 2)
  else if K1 = 2 then put f P Q n1 (Q - 1) 0
  else if K2 = 2 then put f P Q n2 (Q - 1) 0
  else if n1 = n2 then rd f P Q b n1 (M1 + M2)
  else if M1 = M2 then put f P Q false 0 0
  else if M1 < M2 then rd f P Q b n2 (M2 - M1)
  else rd f P Q b n1 (M1 - M2)
/-- What parts of a float there are. -/
def Prt (f P Q b K X S : Int) : Prop :=
  (K = 3 ∧ X = 0 ∧ S = 0) ∨ (K = 2 ∧ X = 0 ∧ S = 0) ∨ (K = 0 ∧ X = 0 ∧ S = 0) ∨
  (K = 1 ∧ 1 - b - f ≤ X ∧ X ≤ Q - 2 - b - f ∧ 0 < S ∧ S < 2 * P ∧ (1 - b - f < X → P ≤ S))

theorem opened_prt {w e f P Q b x y X S K : Int} {n N : Bool} (k : Kd w e f P Q b) (ho : Opened f P Q b n x y N K X S) (x0 : 0 ≤ x) (x1 : x < Q) (y0 : 0 ≤ y) (y1 : y < P) : Prt f P Q b K X S := by
  have hf := k.f0
  unfold Prt
  rcases ho with ⟨h, _⟩ | ⟨_, _, _, _, rfl, rfl, rfl⟩ | ⟨_, _, _, _, rfl, rfl, rfl⟩ | ⟨_, h1, h2, _, rfl, rfl, rfl⟩ | ⟨_, h1, h2, h3, _, rfl, rfl, rfl⟩ | ⟨_, h1, h2, h3, _, rfl, rfl, rfl⟩
  · exact absurd h hf
  · exact Or.inl ⟨rfl, rfl, rfl⟩
  · exact Or.inr (Or.inl ⟨rfl, rfl, rfl⟩)
  · refine Or.inr (Or.inr (Or.inr ⟨rfl, by omega, by omega, by omega, by omega, fun _ => by omega⟩))
  · have : 2 ≤ Q ∧ 1 ≤ P := by rcases k with k | k <;> omega
    refine Or.inr (Or.inr (Or.inr ⟨rfl, by omega, ?_, by omega, by omega, fun h => by omega⟩))
    rcases k with k | k <;> omega
  · exact Or.inr (Or.inr (Or.inl ⟨rfl, rfl, rfl⟩))

theorem Prt.in {w e f P Q b K X S : Int} (k : Kd w e f P Q b) (h : Prt f P Q b K X S) : -1200 ≤ X ∧ X ≤ 1100 ∧ 0 ≤ S ∧ S < 2 * P ∧ S < 9007199254740992 := by
  unfold Prt at h
  rcases k with ⟨-, -, rfl, rfl, rfl, rfl⟩ | ⟨-, -, rfl, rfl, rfl, rfl⟩ <;> omega
theorem Prt.mag0 {f P Q b K X S : Int} (h : Prt f P Q b K X S) (hK : K ≠ 1) : mag X S = 0 := by
  have : S = 0 := by
    unfold Prt at h
    omega
  subst this
  exact Nat.zero_mul _
theorem num_mag {X : Int} (S : Int) (h0 : -1200 ≤ X) (h1 : X ≤ 1100) : num S.toNat false (cap X) = mag X S := by
  rw [cap_id (by omega) (by omega), num_plain _ _ (by omega)]
  rfl
theorem rd_zero {w e f P Q b : Int} (k : Kd w e f P Q b) (n : Bool) : rd f P Q b n 0 = put f P Q n 0 0 := by
  unfold rd
  have := k.pos
  have hq : ¬ (Q - 1) * P ≤ 0 := by
    have := Int.mul_pos (show 0 < Q - 1 by omega) (show 0 < P by omega)
    omega
  rw [code_zero]
  unfold lid fl
  rw [if_neg (show ¬ (Q - 1) * P ≤ ((0 : Nat) : Int) from hq)]
  simp

theorem add_comm {f P Q b : Int} (n1 n2 : Bool) (K1 K2 : Int) (M1 M2 : Nat) : addP f P Q b n1 K1 M1 n2 K2 M2 = addP f P Q b n2 K2 M2 n1 K1 M1 := by
  unfold addP
  by_cases h3 : K1 = 3 ∨ K2 = 3 ∨ (K1 = 2 ∧ K2 = 2 ∧ n1 ≠ n2)
  · rw [if_pos h3, if_pos (by
      rcases h3 with h | h | ⟨h1, h2, h⟩
      · exact Or.inr (Or.inl h)
      · exact Or.inl h
      · exact Or.inr (Or.inr ⟨h2, h1, fun he => h he.symm⟩))]
  · have h3' : ¬ (K2 = 3 ∨ K1 = 3 ∨ (K2 = 2 ∧ K1 = 2 ∧ n2 ≠ n1)) := fun h => h3 (by
      rcases h with h | h | ⟨h1, h2, h⟩
      · exact Or.inr (Or.inl h)
      · exact Or.inl h
      · exact Or.inr (Or.inr ⟨h2, h1, fun he => h he.symm⟩))
    rw [if_neg h3, if_neg h3']
    by_cases ka : K1 = 2
    · rw [if_pos ka]
      by_cases kb : K2 = 2
      · rw [if_pos kb]
        have : n1 = n2 := Decidable.byContradiction fun hn => h3 (Or.inr (Or.inr ⟨ka, kb, hn⟩))
        rw [this]
      · rw [if_neg kb, if_pos ka]
    · rw [if_neg ka]
      by_cases kb : K2 = 2
      · rw [if_pos kb, if_pos kb]
      · rw [if_neg kb, if_neg kb, if_neg ka]
        by_cases hn : n1 = n2
        · subst hn
          rw [if_pos rfl, if_pos rfl, Nat.add_comm]
        · rw [if_neg hn, if_neg (fun h : n2 = n1 => hn h.symm)]
          by_cases hM : M1 = M2
          · rw [if_pos hM, if_pos hM.symm]
          · rw [if_neg hM, if_neg (fun h : M2 = M1 => hM h.symm)]
            by_cases hl : M1 < M2
            · rw [if_pos hl, if_neg (by omega)]
            · rw [if_neg hl, if_pos (by omega)]

theorem pack_at {w e f P Q b E : Int} (k : Kd w e f P Q b) (n : Bool) (v : Nat) (hv : W2 v) (h0 : -1200 ≤ E) (h1 : E ≤ 1100) (W : World) :
    Calls Tryd.prog 57 #[.int .i64 w, .bool n, .agg #[.int .u64 (hi v), .int .u64 (lo v)], .int .i64 E, .bool false] W fun r W' => r = .returned (.int .u64 (rd f P Q b n (v * 2 ^ (E + 5000).toNat))) ∧ Below W.heap.size W W' := by
  have := pack_known v n false E k hv W
  rw [cap_id (by omega) (by omega), num_plain _ _ (by omega)] at this
  exact this

end Go.Proofs.YtahdcbjfabccpaaDoor
namespace Go.Proofs.YtahdcbjfabccpaaDoor
open Go.RowKit
open Go.Proofs.YtahdcbjfabccpaaDoor.W

/-- A float's bits without the sign, as a number. -/
def oc (P Q x : Int) : Nat := (x / P % Q * P + x % P).toNat
/-- Its kind. -/
def oK (P Q x : Int) : Int := if x / P % Q = Q - 1 then (if x % P = 0 then 2 else 3) else if x / P % Q = 0 ∧ x % P = 0 then 0 else 1
/-- Its sign. -/
def oN (P Q x : Int) : Bool := if x / P % Q = Q - 1 ∧ x % P ≠ 0 then false else sg P Q x
/-- Its number, 5000 bits up. -/
def oM (f P Q b x : Int) : Nat := if x / P % Q = Q - 1 then 0 else fval f.toNat (lowN f b) (oc P Q x)
/-- The difference of two floats. -/
def subB (f P Q b x y : Int) : Int := addP f P Q b (oN P Q x) (oK P Q x) (oM f P Q b x) (!oN P Q y) (oK P Q y) (oM f P Q b y)

theorem mag_zero (X : Int) : mag X 0 = 0 := by
  unfold mag
  rw [show (0 : Int).toNat = 0 from rfl, Nat.zero_mul]
theorem open_kd {w e f P Q b : Int} (k : Kd w e f P Q b) (x : Int) : ∃ X S, Opened f P Q b (sg P Q x) (x / P % Q) (x % P) (oN P Q x) (oK P Q x) X S ∧ Prt f P Q b (oK P Q x) X S ∧ mag X S = oM f P Q b x := by
  obtain ⟨p1, p2, q1, q2⟩ := k.pos
  obtain ⟨hP, f0, f1, l0, l1, b0, b1⟩ := k.pow
  obtain ⟨u, v⟩ := exp_in (x / P) (show 1 ≤ Q by omega)
  obtain ⟨u', v'⟩ := exp_in x (show 1 ≤ P by omega)
  have hf := k.f0
  unfold oM oN oK oc
  generalize x / P % Q = e at *
  generalize x % P = y at *
  generalize sg P Q x = n at *
  by_cases h1 : e = Q - 1
  · rw [if_pos h1, if_pos h1]
    by_cases h2 : y = 0
    · rw [if_pos h2, if_neg (by omega)]
      exact ⟨0, 0, Or.inr (Or.inr (Or.inl ⟨hf, h1, h2, rfl, rfl, rfl, rfl⟩)), Or.inr (Or.inl ⟨rfl, rfl, rfl⟩), mag_zero 0⟩
    · rw [if_neg h2, if_pos ⟨h1, h2⟩]
      exact ⟨0, 0, Or.inr (Or.inl ⟨hf, h1, h2, rfl, rfl, rfl, rfl⟩), Or.inl ⟨rfl, rfl, rfl⟩, mag_zero 0⟩
  · rw [if_neg h1, if_neg h1, if_neg (fun h => h1 h.1)]
    by_cases h2 : e = 0
    · by_cases h3 : y = 0
      · rw [if_pos ⟨h2, h3⟩]
        refine ⟨0, 0, Or.inr (Or.inr (Or.inr (Or.inr (Or.inr ⟨hf, h1, h2, h3, rfl, rfl, rfl, rfl⟩)))), Or.inr (Or.inr (Or.inl ⟨rfl, rfl, rfl⟩)), ?_⟩
        rw [h2, h3, Int.zero_mul, mag_zero, show ((0 : Int) + 0).toNat = 0 from rfl, fval_zero]
      · rw [if_neg (fun h => h3 h.2)]
        have ho : Opened f P Q b n e y n 1 (1 - b - f) y := Or.inr (Or.inr (Or.inr (Or.inr (Or.inl ⟨hf, h1, h2, h3, rfl, rfl, rfl, rfl⟩))))
        refine ⟨1 - b - f, y, ho, opened_prt k ho u v u' v', ?_⟩
        have hv := fval_norm f.toNat (lowN f b) y.toNat (lowN f b) (by rw [Nat.pow_succ]; omega) (Nat.le_refl _) (fun h => absurd h (Nat.lt_irrefl _))
        rw [Nat.sub_self, Nat.zero_mul, Nat.zero_add] at hv
        rw [h2, Int.zero_mul, Int.zero_add, hv]
        unfold mag
        rw [show (1 - b - f + 5000).toNat = lowN f b by unfold lowN; omega]
    · rw [if_neg (fun h => h2 h.1)]
      have ho : Opened f P Q b n e y n 1 (e - b - f) (P + y) := Or.inr (Or.inr (Or.inr (Or.inl ⟨hf, h1, h2, rfl, rfl, rfl, rfl⟩)))
      refine ⟨e - b - f, P + y, ho, opened_prt k ho u v u' v', ?_⟩
      have hk : (e - b - f + 5000).toNat = lowN f b + (e.toNat - 1) := by unfold lowN; omega
      have hv := fval_norm f.toNat (lowN f b) (P + y).toNat (lowN f b + (e.toNat - 1)) (by rw [Nat.pow_succ]; omega) (by omega) (fun _ => by omega)
      unfold mag
      rw [hk, ← hv]
      congr 1
      rw [show lowN f b + (e.toNat - 1) - lowN f b = e.toNat - 1 by omega]
      have e1 : (e * P + y).toNat = e.toNat * 2 ^ f.toNat + y.toNat := by
        have : ((e.toNat * 2 ^ f.toNat : Nat) : Int) = e * P := by
          rw [Int.natCast_mul, ← hP, Int.toNat_of_nonneg u]
        omega
      have e2 : (P + y).toNat = 2 ^ f.toNat + y.toNat := by omega
      rw [e1, e2, ← Nat.add_assoc]
      congr 1
      obtain ⟨j, hj⟩ : ∃ j, e.toNat = j + 1 := ⟨e.toNat - 1, by omega⟩
      rw [hj, Nat.add_sub_cancel, Nat.add_mul, Nat.one_mul]

end Go.Proofs.YtahdcbjfabccpaaDoor
namespace Go.Proofs.YtahdcbjfabccpaaDoor
open Go.RowKit
open Go.Proofs.YtahdcbjfabccpaaDoor.W

theorem put_in {w e f P Q b x y : Int} {n : Bool} (h : Kd w e f P Q b) (x0 : 0 ≤ x) (x1 : x < Q) (y0 : 0 ≤ y) (y1 : y < P) :
    0 ≤ put f P Q n x y ∧ put f P Q n x y < 18446744073709551616 ∧ sg P Q (put f P Q n x y) = n ∧ put f P Q n x y / P % Q = x ∧ put f P Q n x y % P = y := by
  unfold sg
  cases n
  · rw [put_no h.f0]
    rcases h with ⟨-, -, -, rfl, rfl, -⟩ | ⟨-, -, -, rfl, rfl, -⟩
    · refine ⟨by omega, by omega, ?_, by omega, by omega⟩
      show ((x * 8388608 + y) / 2147483648 % 2 == 1) = false
      exact eq_f (by omega)
    · refine ⟨by omega, by omega, ?_, by omega, by omega⟩
      show ((x * 4503599627370496 + y) / 9223372036854775808 % 2 == 1) = false
      exact eq_f (by omega)
  · rw [put_yes h.f0]
    rcases h with ⟨-, -, -, rfl, rfl, -⟩ | ⟨-, -, -, rfl, rfl, -⟩
    · refine ⟨by omega, by omega, ?_, by omega, by omega⟩
      show ((x * 8388608 + y + 2147483648) / 2147483648 % 2 == 1) = true
      exact eq_t (by omega)
    · refine ⟨by omega, by omega, ?_, by omega, by omega⟩
      show ((x * 4503599627370496 + y + 9223372036854775808) / 9223372036854775808 % 2 == 1) = true
      exact eq_t (by omega)

/-- The infinite one's code. -/
def top (P Q : Int) : Int := (Q - 1) * P
theorem top_pos {w e f P Q b : Int} (k : Kd w e f P Q b) : 0 < top P Q := by
  unfold top
  rcases k with ⟨-, -, -, rfl, rfl, -⟩ | ⟨-, -, -, rfl, rfl, -⟩ <;> omega
/-- The canonical NaN. -/
def nanB (f P Q : Int) : Int := put f P Q false (Q - 1) (P / 2)

theorem code_parts {w e f P Q b c : Int} (k : Kd w e f P Q b) (c0 : 0 ≤ c) (c1 : c ≤ top P Q) : 0 ≤ c / P ∧ c / P < Q ∧ 0 ≤ c % P ∧ c % P < P ∧ c / P * P + c % P = c ∧ (c / P = Q - 1 ↔ c = top P Q) ∧ (c = top P Q → c % P = 0) := by
  unfold top at *
  rcases k with ⟨-, -, -, rfl, rfl, -⟩ | ⟨-, -, -, rfl, rfl, -⟩ <;> (refine ⟨?_, ?_, ?_, ?_, ?_, ?_, ?_⟩ <;> omega)

/-- A float's own code, sign and kind. -/
theorem fl_facts {w e f P Q b c : Int} (k : Kd w e f P Q b) (n : Bool) (c0 : 0 ≤ c) (c1 : c ≤ top P Q) :
    0 ≤ fl f P Q n c ∧ fl f P Q n c < 18446744073709551616 ∧ ((oc P Q (fl f P Q n c) : Nat) : Int) = c ∧ oN P Q (fl f P Q n c) = n ∧ cutN f P Q (fl f P Q n c) = fl f P Q n c ∧ (fl f P Q n c / P % Q == Q - 1 && fl f P Q n c % P != 0) = false := by
  obtain ⟨a0, a1, d0, d1, he, ht, hz⟩ := code_parts k c0 c1
  have hf : fl f P Q n c = put f P Q n (c / P) (c % P) := rfl
  obtain ⟨r0, r1, r2, r3, r4⟩ := put_in (n := n) k a0 a1 d0 d1
  rw [← hf] at r0 r1 r2 r3 r4
  refine ⟨r0, r1, ?_, ?_, ?_, ?_⟩
  · unfold oc
    rw [r3, r4, he, Int.toNat_of_nonneg c0]
  · unfold oN
    rw [r2, r3, r4, if_neg (fun h => h.2 (hz (ht.1 h.1)))]
  · rw [← cut_put k.wd.sz, r2, r3, r4]
    exact hf.symm
  · rw [r3, r4]
    by_cases h : c = top P Q
    · simp [hz h]
    · rw [eq_f (fun h' => h (ht.1 h'))]
      rfl
/-- A float by its code. -/
theorem kind_oc {w e f P Q b : Int} (k : Kd w e f P Q b) (x : Int) :
    (oK P Q x = 3 ∧ top P Q < oc P Q x ∧ oN P Q x = false) ∨ (oK P Q x = 2 ∧ (oc P Q x : Int) = top P Q ∧ oM f P Q b x = 0) ∨
    (oK P Q x = 1 ∧ 0 < oc P Q x ∧ (oc P Q x : Int) < top P Q ∧ oM f P Q b x = fval f.toNat (lowN f b) (oc P Q x)) ∨ (oK P Q x = 0 ∧ oc P Q x = 0 ∧ oM f P Q b x = 0) := by
  obtain ⟨p1, p2, q1, q2⟩ := k.pos
  obtain ⟨u, v⟩ := exp_in (x / P) (show 1 ≤ Q by omega)
  obtain ⟨u', v'⟩ := exp_in x (show 1 ≤ P by omega)
  unfold oM oN oK
  have hc : ((oc P Q x : Nat) : Int) = x / P % Q * P + x % P := by
    unfold oc
    have := Int.mul_nonneg u (show 0 ≤ P by omega)
    omega
  have hz := fval_zero f.toNat (lowN f b)
  generalize oc P Q x = c at *
  generalize x / P % Q = e at *
  generalize x % P = y at *
  generalize sg P Q x = n at *
  by_cases h1 : e = Q - 1
  · rw [if_pos h1, if_pos h1]
    by_cases h2 : y = 0
    · rw [if_pos h2]
      refine Or.inr (Or.inl ⟨rfl, ?_, rfl⟩)
      rw [hc, h1, h2]
      unfold top
      omega
    · rw [if_neg h2, if_pos ⟨h1, h2⟩]
      refine Or.inl ⟨rfl, ?_, rfl⟩
      rw [hc, h1]
      unfold top
      omega
  · rw [if_neg h1, if_neg h1]
    by_cases h2 : e = 0 ∧ y = 0
    · rw [if_pos h2]
      have : c = 0 := by
        rw [h2.1, h2.2] at hc
        omega
      subst this
      exact Or.inr (Or.inr (Or.inr ⟨rfl, rfl, hz⟩))
    · rw [if_neg h2]
      refine Or.inr (Or.inr (Or.inl ⟨rfl, ?_, ?_, rfl⟩))
      · rcases k with ⟨-, -, -, rfl, rfl, -⟩ | ⟨-, -, -, rfl, rfl, -⟩ <;> omega
      · unfold top
        rcases k with ⟨-, -, -, rfl, rfl, -⟩ | ⟨-, -, -, rfl, rfl, -⟩ <;> omega
theorem oM_fin {w e f P Q b : Int} (k : Kd w e f P Q b) {x : Int} (h : oK P Q x ≠ 3 ∧ oK P Q x ≠ 2) : oM f P Q b x = fval f.toNat (lowN f b) (oc P Q x) ∧ (oc P Q x : Int) < top P Q := by
  have ht := top_pos k
  rcases kind_oc k x with ⟨h1, _⟩ | ⟨h1, _⟩ | ⟨_, _, h2, h3⟩ | ⟨_, h2, h3⟩
  · exact absurd h1 h.1
  · exact absurd h1 h.2
  · exact ⟨h3, h2⟩
  · rw [h2, h3, fval_zero]
    exact ⟨rfl, ht⟩
/-- A float's number is rounded to itself. -/
theorem rd_val {w e f P Q b : Int} (_ : Kd w e f P Q b) (n : Bool) {c : Nat} (h : (c : Int) < top P Q) : rd f P Q b n (fval f.toNat (lowN f b) c) = fl f P Q n c := by
  unfold rd
  rw [fval_code]
  unfold lid
  rw [if_neg (show ¬ (Q - 1) * P ≤ (c : Int) by unfold top at h; omega)]

/-- A float less itself. -/
theorem sub_self {w e f P Q b : Int} (k : Kd w e f P Q b) {x : Int} : (oK P Q x = 2 → subB f P Q b x x = nanB f P Q) ∧ (oK P Q x ≠ 2 → oK P Q x ≠ 3 → subB f P Q b x x = 0) := by
  unfold subB addP
  refine ⟨fun h => ?_, fun h h3 => ?_⟩
  · rw [if_pos (Or.inr (Or.inr ⟨h, h, by cases oN P Q x <;> simp⟩))]
    rfl
  · rw [if_neg (by omega), if_neg h, if_neg h, if_neg (by cases oN P Q x <;> simp), if_pos rfl, put_no k.f0]
    omega
end Go.Proofs.YtahdcbjfabccpaaDoor
namespace Go.Proofs.YtahdcbjfabccpaaDoor
open Go.RowKit
open Go.Proofs.YtahdcbjfabccpaaDoor.W

theorem pw_of_len {x i : Nat} (h : Go.bitLen x ≤ 32 * i) : x < pw i := by rw [pw_two]; exact bl_lt h
theorem one_pw : 1 < pw 300 := lt_pw (k := 1) 300 (by rw [pw_1]; omega) (by omega)
theorem cmp_not {x y : Nat} (h : y ≤ x) : decide (cmpN x y < 0) = false := df (fun hn => by have := cmpN_ge h; omega)

/-- The last bit's place of the float that is nearest to x times 2^k, and what is taken there. -/
theorem grain_known {f b k : Int} (x : Nat) (hx0 : x ≠ 0) (f0 : 0 ≤ f ∧ f ≤ 52) (hL : -1074 ≤ 1 - b - f ∧ 1 - b - f ≤ 0) (k0 : -4000 ≤ k) (k1 : k ≤ 4000) (hx : x < pw 140) {q : Int}
    (hq : q = if (Go.bitLen x : Int) - 1 + k - f < 1 - b - f then 1 - b - f else (Go.bitLen x : Int) - 1 + k - f) :
    unitOf f.toNat (lowN f b) (x * 2 ^ (k + 5000).toNat) = (q + 5000).toNat ∧
    ∀ (a b' : Option Addr) (na ca nb cb : Nat) (W : World), IsNat W (.slice a na ca) x → IsNat W (.slice b' nb cb) 1 →
      Calls Tryd.prog 66 #[.agg #[.slice a na ca], .agg #[.slice b' nb cb], .int .i64 (k - q)] W fun r W' => ∃ s', r = .returned (.agg #[s']) ∧ IsNat W' s' (near (x * 2 ^ (k + 5000).toNat) (2 ^ (q + 5000).toNat)) ∧ Below W.heap.size W W' := by
  have hl := bl_shl x (k + 5000).toNat hx0
  have hbp := bl_pos hx0
  have hb140 : Go.bitLen x ≤ 4480 := by have := bitLen_pw hx; omega
  have hqr : 1 - b - f ≤ q ∧ (Go.bitLen x : Int) - 1 + k - f ≤ q ∧ q ≤ 9000 ∧ q - k ≤ 8600 := by rw [hq]; split <;> omega
  refine ⟨?_, ?_⟩
  · unfold unitOf lowN
    rw [hl, hq]
    split <;> omega
  · intro a b' na ca nb cb W ha hb
    have h1 := one_pw
    have h300 : x < pw 300 := lt_pw 300 hx (by omega)
    by_cases h0 : 0 ≤ k - q
    · have e : near (x * 2 ^ (k + 5000).toNat) (2 ^ (q + 5000).toNat) = near (x * 2 ^ (k - q).toNat) 1 := by
        rw [pow_split2 (k + 5000).toNat (k - q).toNat (q + 5000).toNat (by omega), ← Nat.mul_assoc]
        have := near_scale (x * 2 ^ (k - q).toNat) 1 (2 ^ (q + 5000).toNat) (Nat.two_pow_pos _)
        rw [Nat.one_mul] at this
        exact this
      rw [e]
      refine grain_up a b' na ca nb cb x 1 (k - q) W ha hb h300 ?_ (by omega) h1 h0 (by omega)
      refine pw_of_len ?_
      rw [bl_shl x _ hx0]
      omega
    · have e : near (x * 2 ^ (k + 5000).toNat) (2 ^ (q + 5000).toNat) = near x (1 * 2 ^ (-(k - q)).toNat) := by
        rw [pow_split2 (q + 5000).toNat (-(k - q)).toNat (k + 5000).toNat (by omega), near_scale _ _ _ (Nat.two_pow_pos _), Nat.one_mul]
      rw [e]
      exact grain_dn a b' na ca nb cb x 1 (k - q) W ha hb h300 (pow_ne _) h1 (pow_pw (by omega)) h0 (by omega) (i64_id (by omega) (by omega))

set_option maxHeartbeats 2000000 in
theorem near_known {w e f P Q b k : Int} {n : Bool} (kd : Kd w e f P Q b) (a b' : Option Addr) (na ca nb cb x : Nat) (w0 : World) (hx : IsNat w0 (.slice a na ca) x) (hy : IsNat w0 (.slice b' nb cb) 1)
    (hx0 : x ≠ 0) (k0 : -4000 ≤ k) (k1 : k ≤ 4000) (h140 : x < pw 140) :
    Calls Tryd.prog 47 #[.int .i64 w, .bool n, .agg #[.slice a na ca], .agg #[.slice b' nb cb], .int .i64 k] w0 fun r W' => r = .returned (.int .u64 (fl f P Q n (lid P Q (code f.toNat (lowN f b) (x * 2 ^ (k + 5000).toNat) : Nat)))) ∧ Below w0.heap.size w0 W' := by
  obtain ⟨hP, f0, f1, l0, l1, b0, b1⟩ := kd.pow
  obtain ⟨q, hq0⟩ : ∃ q : Int, q = if (Go.bitLen x : Int) - 1 + k - f < 1 - b - f then 1 - b - f else (Go.bitLen x : Int) - 1 + k - f := ⟨_, rfl⟩
  obtain ⟨hu, hg⟩ := grain_known x hx0 ⟨f0, f1⟩ ⟨l0, l1⟩ k0 k1 h140 hq0
  have hbp := bl_pos hx0
  have hb140 : Go.bitLen x ≤ 4480 := by have := bitLen_pw h140; omega
  have hup := unit_up f.toNat (lowN f b) (x * 2 ^ (k + 5000).toNat)
  have hdn := fun h => unit_dn (f := f.toNat) (L := lowN f b) (X := x * 2 ^ (k + 5000).toNat) h
  have hqr : 1 - b - f ≤ q ∧ q ≤ 9000 := by rw [hq0]; split <;> omega
  have hcode : ((code f.toNat (lowN f b) (x * 2 ^ (k + 5000).toNat) : Nat) : Int) = (q - (1 - b - f)) * P + (near (x * 2 ^ (k + 5000).toNat) (2 ^ (q + 5000).toNat) : Nat) := by
    unfold code
    rw [hu, hP, show q - (1 - b - f) = (((q + 5000).toNat - lowN f b : Nat) : Int) by unfold lowN; omega]
    simp
  rw [hcode]
  rw [hu] at hup hdn
  generalize near (x * 2 ^ (k + 5000).toNat) (2 ^ (q + 5000).toNat) = G at *
  have hup' : (G : Int) ≤ 2 * P := by rw [hP]; omega
  have hdn' : 1 - b - f < q → P ≤ (G : Int) := fun h => by
    rw [hP]
    have := hdn (by unfold lowN; omega)
    omega
  clear hcode hup hdn hu
  have HF := hide (fun W => refF_any kd W)
  have HL := hide (fun W => refLow_any kd W)
  have HT := hide (fun W => refTop_any kd W)
  have H2 := hide (fun W => two_f kd W)
  have HI := hide (fun W => refInf_any n kd W)
  have HM := fun (X Y : Int) (x0 : 0 ≤ X) (x1 : X < Q) (y0 : 0 ≤ Y) (y1 : Y < P) W => make_any n X Y kd W x0 x1 y0 y1
  have HG := hide (hg a b' na ca nb cb)
  have hq : ((Go.bitLen x : Int) - (Go.bitLen 1 : Int) + k - f < 1 - b - f ∧ q = 1 - b - f) ∨ ((Go.bitLen x : Int) - (Go.bitLen 1 : Int) + k - f = 1 - b - f ∧ q = 1 - b - f) ∨ (1 - b - f < (Go.bitLen x : Int) - (Go.bitLen 1 : Int) + k - f ∧ q = (Go.bitLen x : Int) - (Go.bitLen 1 : Int) + k - f) := by
    rw [show Go.bitLen 1 = 1 from rfl, hq0]
    split <;> omega
  have HU : 1 - b - f < (Go.bitLen x : Int) - (Go.bitLen 1 : Int) + k - f → Hid (∀ W, IsNat W (.slice a na ca) x → IsNat W (.slice b' nb cb) 1 → Calls Tryd.prog 65 #[.agg #[.slice a na ca], .agg #[.slice b' nb cb], .int .i64 (k - q - f)] W fun r W' => r = .returned (.bool false) ∧ Below W.heap.size W W') := by
    intro hlt W ha hb
    have hs : k - q - f = 1 - (Go.bitLen x : Int) := by
      rw [show Go.bitLen 1 = 1 from rfl] at hlt
      rw [hq0, if_neg (by omega)]
      omega
    have hxl := bl_ge (x := x) (k := Go.bitLen x - 1) (by omega)
    rw [hs]
    by_cases h1 : 0 ≤ 1 - (Go.bitLen x : Int)
    · have hu := under_up a b' na ca nb cb x 1 (1 - (Go.bitLen x : Int)) W ha hb (lt_pw 300 h140 (by omega)) h1 (by omega)
      rw [cmp_not (by have := Nat.two_pow_pos (1 - (Go.bitLen x : Int)).toNat; exact Nat.mul_pos (by omega) this)] at hu
      exact hu
    · have hu := under_dn a b' na ca nb cb x 1 (1 - (Go.bitLen x : Int)) W ha hb one_pw h1 (by omega) (i64_id (by omega) (by omega))
      rw [cmp_not (by rw [show (-(1 - (Go.bitLen x : Int))).toNat = Go.bitLen x - 1 by omega]; omega)] at hu
      exact hu
  have hl1 : (Go.bitLen 1 : Int) = 1 := rfl
  have hG3 : G < pw 300 := by
    have h2 : G < 2 ^ 54 := by rcases kd with ⟨_, _, _, rfl, _⟩ | ⟨_, _, _, rfl, _⟩ <;> omega
    exact pw_of_len (Nat.le_trans (bitLen_of h2) (by omega))
  clear hq0 hg
  rcases kd with ⟨rfl, rfl, rfl, rfl, rfl, rfl⟩ | ⟨rfl, rfl, rfl, rfl, rfl, rfl⟩
  · by_cases hbig : 2 * 8388608 ≤ G
    · have hG : G = 2 * 8388608 := by omega
      have hs2 : lo (G / 2 ^ 1) = 8388608 := by rw [hG]; rfl
      have d : (23 : Int) + 1 < (Go.bitLen G : Int) := by rw [hG]; decide +kernel
      by_cases g : 1 - 127 - 23 + (256 - 1) - 2 < q + 1
      · unfold lid
        rw [if_pos (by omega), fl_eq n (x := 256 - 1) (y := 0) (by rfl) (by rfl)]
        exact near_bi a b' na ca nb cb x 1 G w0 hx hy HF HL HT H2 rfl rfl (by omega) (by omega) (by omega) (by omega) (by omega) (by omega) rfl hq HU HG rfl d hG3 (dt g) HI
      · unfold lid
        rw [if_neg (by omega), fl_eq n (x := q + 1 - (1 - 127 - 23) + 1) (y := 8388608 - 8388608) (by omega) (by omega)]
        exact near_bn a b' na ca nb cb x 1 G w0 hx hy HF HL HT H2 rfl rfl (by omega) (by omega) (by omega) (by omega) (by omega) (by omega) rfl hq HU HG rfl d hG3 (df g) hs2 (df (by omega)) (i64_id (by omega) (by omega)) (i64_id (by omega) (by omega)) (by rw [IntKind.wrap_u64]; rfl) (hide (fun W => HM _ _ (by omega) (by omega) (by omega) (by omega) W))
    · have hs2 : lo G = (G : Int) := lo_small (by omega)
      have d : ¬ (23 : Int) + 1 < (Go.bitLen G : Int) := by
        have := bitLen_of (v := G) (k := 23 + 1) (by omega)
        omega
      by_cases g : 1 - 127 - 23 + (256 - 1) - 2 < q
      · unfold lid
        rw [if_pos (by omega), fl_eq n (x := 256 - 1) (y := 0) (by rfl) (by rfl)]
        exact near_si a b' na ca nb cb x 1 G w0 hx hy HF HL HT H2 rfl rfl (by omega) (by omega) (by omega) (by omega) (by omega) (by omega) rfl hq HU HG rfl d (dt g) HI
      · unfold lid
        rw [if_neg (by omega)]
        by_cases t : (G : Int) < 8388608
        · rw [fl_eq n (x := 0) (y := (G : Int)) (by omega) (by omega)]
          exact near_ss a b' na ca nb cb x 1 G w0 hx hy HF HL HT H2 rfl rfl (by omega) (by omega) (by omega) (by omega) (by omega) (by omega) rfl hq HU HG rfl d (df g) hs2 (dt t) (hide (fun W => HM _ _ (by omega) (by omega) (by omega) (by omega) W))
        · rw [fl_eq n (x := q - (1 - 127 - 23) + 1) (y := (G : Int) - 8388608) (by omega) (by omega)]
          exact near_sn a b' na ca nb cb x 1 G w0 hx hy HF HL HT H2 rfl rfl (by omega) (by omega) (by omega) (by omega) (by omega) (by omega) rfl hq HU HG rfl d (df g) hs2 (df t) (i64_id (by omega) (by omega)) (i64_id (by omega) (by omega)) (by rw [IntKind.wrap_u64]; omega) (hide (fun W => HM _ _ (by omega) (by omega) (by omega) (by omega) W))
  · by_cases hbig : 2 * 4503599627370496 ≤ G
    · have hG : G = 2 * 4503599627370496 := by omega
      have hs2 : lo (G / 2 ^ 1) = 4503599627370496 := by rw [hG]; rfl
      have d : (52 : Int) + 1 < (Go.bitLen G : Int) := by rw [hG]; decide +kernel
      by_cases g : 1 - 1023 - 52 + (2048 - 1) - 2 < q + 1
      · unfold lid
        rw [if_pos (by omega), fl_eq n (x := 2048 - 1) (y := 0) (by rfl) (by rfl)]
        exact near_bi a b' na ca nb cb x 1 G w0 hx hy HF HL HT H2 rfl rfl (by omega) (by omega) (by omega) (by omega) (by omega) (by omega) rfl hq HU HG rfl d hG3 (dt g) HI
      · unfold lid
        rw [if_neg (by omega), fl_eq n (x := q + 1 - (1 - 1023 - 52) + 1) (y := 4503599627370496 - 4503599627370496) (by omega) (by omega)]
        exact near_bn a b' na ca nb cb x 1 G w0 hx hy HF HL HT H2 rfl rfl (by omega) (by omega) (by omega) (by omega) (by omega) (by omega) rfl hq HU HG rfl d hG3 (df g) hs2 (df (by omega)) (i64_id (by omega) (by omega)) (i64_id (by omega) (by omega)) (by rw [IntKind.wrap_u64]; rfl) (hide (fun W => HM _ _ (by omega) (by omega) (by omega) (by omega) W))
    · have hs2 : lo G = (G : Int) := lo_small (by omega)
      have d : ¬ (52 : Int) + 1 < (Go.bitLen G : Int) := by
        have := bitLen_of (v := G) (k := 52 + 1) (by omega)
        omega
      by_cases g : 1 - 1023 - 52 + (2048 - 1) - 2 < q
      · unfold lid
        rw [if_pos (by omega), fl_eq n (x := 2048 - 1) (y := 0) (by rfl) (by rfl)]
        exact near_si a b' na ca nb cb x 1 G w0 hx hy HF HL HT H2 rfl rfl (by omega) (by omega) (by omega) (by omega) (by omega) (by omega) rfl hq HU HG rfl d (dt g) HI
      · unfold lid
        rw [if_neg (by omega)]
        by_cases t : (G : Int) < 4503599627370496
        · rw [fl_eq n (x := 0) (y := (G : Int)) (by omega) (by omega)]
          exact near_ss a b' na ca nb cb x 1 G w0 hx hy HF HL HT H2 rfl rfl (by omega) (by omega) (by omega) (by omega) (by omega) (by omega) rfl hq HU HG rfl d (df g) hs2 (dt t) (hide (fun W => HM _ _ (by omega) (by omega) (by omega) (by omega) W))
        · rw [fl_eq n (x := q - (1 - 1023 - 52) + 1) (y := (G : Int) - 4503599627370496) (by omega) (by omega)]
          exact near_sn a b' na ca nb cb x 1 G w0 hx hy HF HL HT H2 rfl rfl (by omega) (by omega) (by omega) (by omega) (by omega) (by omega) rfl hq HU HG rfl d (df g) hs2 (df t) (i64_id (by omega) (by omega)) (i64_id (by omega) (by omega)) (by rw [IntKind.wrap_u64]; omega) (hide (fun W => HM _ _ (by omega) (by omega) (by omega) (by omega) W))

end Go.Proofs.YtahdcbjfabccpaaDoor
namespace Go.Proofs.YtahdcbjfabccpaaDoor
open Go.RowKit
open Go.Proofs.YtahdcbjfabccpaaDoor.W

set_option maxRecDepth 100000 in
set_option maxHeartbeats 1000000 in
theorem exact_z {w k V : Int} {n : Bool} (a : Option Addr) (na ca : Nat) (w0 : World) (hz : ((na : Int) == 0) = true) (HC : Ct 45 #[.int .i64 w, .bool n, .int .i64 0, .int .u64 0] (.int .u64 V)) :
    Calls Tryd.prog 24 #[.int .i64 w, .bool n, .agg #[.slice a na ca], .int .i64 k] w0 fun r W' => r = .returned (.int .u64 V) ∧ Below w0.heap.size w0 W' := by
  go_enter Tryd.func24, Tryd.ntmps24
  go_wp2_with fail
  refine (unhide HC _).mono ?_
  rintro _ w1 ⟨rfl, hb⟩
  have HB := hide (bthen (below1 _ _) hb)
  clear hb
  go_wp2_with fail
  go_ret
  exact ⟨rfl, unhide HB⟩
set_option maxRecDepth 100000 in
set_option maxHeartbeats 1000000 in
theorem exact_l {w k V : Int} {n : Bool} (a : Option Addr) (na ca : Nat) (w0 : World) (hz : ((na : Int) == 0) = false) (g : decide (k < -4000) = true) (HC : Ct 45 #[.int .i64 w, .bool n, .int .i64 0, .int .u64 0] (.int .u64 V)) :
    Calls Tryd.prog 24 #[.int .i64 w, .bool n, .agg #[.slice a na ca], .int .i64 k] w0 fun r W' => r = .returned (.int .u64 V) ∧ Below w0.heap.size w0 W' := by
  go_enter Tryd.func24, Tryd.ntmps24
  go_wp2_with fail
  refine (unhide HC _).mono ?_
  rintro _ w1 ⟨rfl, hb⟩
  have HB := hide (bthen (below1 _ _) hb)
  clear hb
  go_wp2_with fail
  go_ret
  exact ⟨rfl, unhide HB⟩
set_option maxRecDepth 100000 in
set_option maxHeartbeats 1000000 in
theorem exact_h {w k V : Int} {n : Bool} (a : Option Addr) (na ca : Nat) (w0 : World) (hz : ((na : Int) == 0) = false) (g : decide (k < -4000) = false) (g2 : decide (4000 < k) = true) (HC : Ct 46 #[.int .i64 w, .bool n] (.int .u64 V)) :
    Calls Tryd.prog 24 #[.int .i64 w, .bool n, .agg #[.slice a na ca], .int .i64 k] w0 fun r W' => r = .returned (.int .u64 V) ∧ Below w0.heap.size w0 W' := by
  go_enter Tryd.func24, Tryd.ntmps24
  go_wp2_with fail
  refine (unhide HC _).mono ?_
  rintro _ w1 ⟨rfl, hb⟩
  have HB := hide (bthen (below1 _ _) hb)
  clear hb
  go_wp2_with fail
  go_ret
  exact ⟨rfl, unhide HB⟩
set_option maxRecDepth 100000 in
set_option maxHeartbeats 1000000 in
theorem exact_n {w k V : Int} {n : Bool} (a : Option Addr) (na ca x : Nat) (w0 : World) (hx : IsNat w0 (.slice a na ca) x) (hz : ((na : Int) == 0) = false) (g : decide (k < -4000) = false) (g2 : decide (4000 < k) = false)
    (HN : Hid (∀ (b' : Option Addr) (nb cb : Nat) (W : World), IsNat W (.slice a na ca) x → IsNat W (.slice b' nb cb) 1 → Calls Tryd.prog 47 #[.int .i64 w, .bool n, .agg #[.slice a na ca], .agg #[.slice b' nb cb], .int .i64 k] W fun r W' => r = .returned (.int .u64 V) ∧ Below W.heap.size W W')) :
    Calls Tryd.prog 24 #[.int .i64 w, .bool n, .agg #[.slice a na ca], .int .i64 k] w0 fun r W' => r = .returned (.int .u64 V) ∧ Below w0.heap.size w0 W' := by
  go_enter Tryd.func24, Tryd.ntmps24
  go_wp2_with fail
  have HB := hide (below1 w0 (.cells #[.slice a na ca] 44)).drew
  have HX := hide (hx.below (unhide HB))
  have HA : Hid ((w0.alloc (.cells #[.slice a na ca] 44)).drew.cell? ⟨w0.heap.size, 0, none⟩ = some (.slice a na ca)) := by unfold Hid; simp [go_sem]
  clear hx
  refine wp_region_held_drew (S := fun w' => w'.cell? ⟨w0.heap.size, 0, none⟩ = some (.slice a na ca)) (by kernel_rfl) ?_ (fun hHeld => ?_)
  · (try dsimp only)
    exact unhide HA
  refine lst0 7 (by kernel_rfl) ?_
  refine tkA 0 25 1 ?_
  refine tkA 1 26 3 ?_
  refine tkA 2 27 7 ?_
  refine tkA 4 29 23 ?_
  refine rdA 3 31 (fun Kk hKk => ?_)
  go_simp
  refine (refOf_1 _).mono ?_
  rintro _ w8 ⟨s8, rfl, hN8, hbl⟩
  obtain ⟨a8, n8, c8, rfl⟩ := hN8.slice
  have H8 := hide hN8
  have HX := hide ((unhide HX).below hbl)
  have HA := hide (keep1 hbl (lt_of_cell (unhide HA)) (unhide HA))
  have HB := hide (bthen (unhide HB) hbl)
  clear hbl hN8
  (try go_wp2_with fail)
  refine hKk.out _ _ ?_ (fun hHeld => ?_)
  · (try dsimp only)
    exact unhide HA
  clear hKk Kk
  (try simp only [List.setIfInBounds_toArray, List.set_cons_zero, List.set_cons_succ])
  refine rdA 5 63 (fun Kk hKk => ?_)
  go_simp
  refine (unhide HN _ _ _ _ (unhide HX) (unhide H8)).mono ?_
  rintro _ w9 ⟨rfl, hbl⟩
  have HA := hide (keep1 hbl (lt_of_cell (unhide HA)) (unhide HA))
  have HB := hide (bthen (unhide HB) hbl)
  clear hbl
  (try go_wp2_with fail)
  refine hKk.out _ _ ?_ (fun hHeld => ?_)
  · (try dsimp only)
    exact unhide HA
  clear hKk Kk
  (try simp only [List.setIfInBounds_toArray, List.set_cons_zero, List.set_cons_succ])
  refine tkA 6 8 127 ?_
  refine wpAnyH_done (by kernel_rfl) ?_ _
  clear hHeld
  go_wp2
  go_ret
  exact ⟨rfl, unhide HB⟩

end Go.Proofs.YtahdcbjfabccpaaDoor
