/- Pack, PackA, PackB, Whole, KeepsA, Narrow, SumB, SumC, SumD, CsM, ChM, CsC, CsE. -/
import Derived.Test.YtmbkpmcmhmldgaaDoorB01
import Derived.Test.YtmbkpmcmhmldgaaDoorB04
import Derived.Test.YtmbkpmcmhmldgaaDoorB07
import Derived.Test.YtmbkpmcmhmldgaaDoorB09
import Derived.Test.YtmbkpmcmhmldgaaDoorB10
import Derived.Test.YtmbkpmcmhmldgaaDoorB14
import Derived.Test.YtmbkpmcmhmldgaaDoorB18
import Derived.Test.YtmbkpmcmhmldgaaDoorB23
import Derived.Test.YtmbkpmcmhmldgaaDoorB24
import Derived.Test.YtmbkpmcmhmldgaaDoorB25
import Derived.Test.YtmbkpmcmhmldgaaDoorB27
import Derived.Shelf.Spec.BitsCarry
import Derived.Handy
namespace Go.Proofs.YtmbkpmcmhmldgaaDoor
open Go.RowKit

theorem set_same9 {b o : Nat} {w : World} (h : Room b 9 w) (ho : o < 9) (v : Value) : (w.setCell ⟨b, o, none⟩ v).cell? ⟨b, o, none⟩ = some v := by
  obtain ⟨⟨u, h1⟩, _⟩ := h o ho
  exact World.cell?_setCell_same _ _ _ h1
theorem at9_set9 {b : Nat} {w : World} (h : Room b 9 w) (v0 v1 v2 v3 v4 v5 v6 v7 v8 : Value) :
    At9 b v0 v1 v2 v3 v4 v5 v6 v7 v8 (((((((((w.setCell ⟨b, 0, none⟩ v0).setCell ⟨b, 1, none⟩ v1).setCell ⟨b, 2, none⟩ v2).setCell ⟨b, 3, none⟩ v3).setCell ⟨b, 4, none⟩ v4).setCell ⟨b, 5, none⟩ v5).setCell ⟨b, 6, none⟩ v6).setCell ⟨b, 7, none⟩ v7).setCell ⟨b, 8, none⟩ v8) :=
  ⟨set_off _ (by omega) (set_off _ (by omega) (set_off _ (by omega) (set_off _ (by omega) (set_off _ (by omega) (set_off _ (by omega) (set_off _ (by omega) (set_off _ (by omega) (set_same9 h (by omega) _)))))))),
   set_off _ (by omega) (set_off _ (by omega) (set_off _ (by omega) (set_off _ (by omega) (set_off _ (by omega) (set_off _ (by omega) (set_off _ (by omega) (set_same9 (h.set _ _) (by omega) _))))))),
   set_off _ (by omega) (set_off _ (by omega) (set_off _ (by omega) (set_off _ (by omega) (set_off _ (by omega) (set_off _ (by omega) (set_same9 ((h.set _ _).set _ _) (by omega) _)))))),
   set_off _ (by omega) (set_off _ (by omega) (set_off _ (by omega) (set_off _ (by omega) (set_off _ (by omega) (set_same9 (((h.set _ _).set _ _).set _ _) (by omega) _))))),
   set_off _ (by omega) (set_off _ (by omega) (set_off _ (by omega) (set_off _ (by omega) (set_same9 ((((h.set _ _).set _ _).set _ _).set _ _) (by omega) _)))),
   set_off _ (by omega) (set_off _ (by omega) (set_off _ (by omega) (set_same9 (((((h.set _ _).set _ _).set _ _).set _ _).set _ _) (by omega) _))),
   set_off _ (by omega) (set_off _ (by omega) (set_same9 ((((((h.set _ _).set _ _).set _ _).set _ _).set _ _).set _ _) (by omega) _)),
   set_off _ (by omega) (set_same9 (((((((h.set _ _).set _ _).set _ _).set _ _).set _ _).set _ _).set _ _) (by omega) _),
   set_same9 ((((((((h.set _ _).set _ _).set _ _).set _ _).set _ _).set _ _).set _ _).set _ _) (by omega) _⟩
theorem bset9 {a b : World} {c : Nat} (h : Below a.heap.size a b) (hc : a.heap.size ≤ c) (v0 v1 v2 v3 v4 v5 v6 v7 v8 : Value) :
    Below a.heap.size a (((((((((b.setCell ⟨c, 0, none⟩ v0).setCell ⟨c, 1, none⟩ v1).setCell ⟨c, 2, none⟩ v2).setCell ⟨c, 3, none⟩ v3).setCell ⟨c, 4, none⟩ v4).setCell ⟨c, 5, none⟩ v5).setCell ⟨c, 6, none⟩ v6).setCell ⟨c, 7, none⟩ v7).setCell ⟨c, 8, none⟩ v8) :=
  (bset (bset (bset (bset (bset (bset (bset (bset (bset h _ hc _ _) _ hc _ _) _ hc _ _) _ hc _ _) _ hc _ _) _ hc _ _) _ hc _ _) _ hc _ _) _ hc _ _)
theorem At2.set9 {b c : Nat} {x y : Value} {w : World} (h : At2 b x y w) (hc : b ≠ c) (v0 v1 v2 v3 v4 v5 v6 v7 v8 : Value) :
    At2 b x y (((((((((w.setCell ⟨c, 0, none⟩ v0).setCell ⟨c, 1, none⟩ v1).setCell ⟨c, 2, none⟩ v2).setCell ⟨c, 3, none⟩ v3).setCell ⟨c, 4, none⟩ v4).setCell ⟨c, 5, none⟩ v5).setCell ⟨c, 6, none⟩ v6).setCell ⟨c, 7, none⟩ v7).setCell ⟨c, 8, none⟩ v8) :=
  (((((((((h.set hc _ _).set hc _ _).set hc _ _).set hc _ _).set hc _ _).set hc _ _).set hc _ _).set hc _ _).set hc _ _)
theorem fresh_room9 {N b : Nat} {v0 v1 v2 v3 v4 v5 v6 v7 v8 : Value} {w : World} (h : Fresh N #[v0, v1, v2, v3, v4, v5, v6, v7, v8] b w) : Room b 9 w := fun o ho => by
  refine ⟨?_, h.thawed o⟩
  match o, ho with
  | 0, _ => exact ⟨_, h.cell 0 _ rfl⟩
  | 1, _ => exact ⟨_, h.cell 1 _ rfl⟩
  | 2, _ => exact ⟨_, h.cell 2 _ rfl⟩
  | 3, _ => exact ⟨_, h.cell 3 _ rfl⟩
  | 4, _ => exact ⟨_, h.cell 4 _ rfl⟩
  | 5, _ => exact ⟨_, h.cell 5 _ rfl⟩
  | 6, _ => exact ⟨_, h.cell 6 _ rfl⟩
  | 7, _ => exact ⟨_, h.cell 7 _ rfl⟩
  | 8, _ => exact ⟨_, h.cell 8 _ rfl⟩

set_option maxRecDepth 100000 in
set_option maxHeartbeats 2000000 in
theorem floatsOf_l {w e f X1 S1 K1 X2 S2 K2 Mx : Int} {n1 n2 : Bool} (W : World) (HF : Ct 13 #[.int .i64 w] (.tuple #[.int .i64 e, .int .i64 f]))
    (H1 : Ct 17 #[.int .i64 w, .int .u64 1] (.agg #[.bool n1, .int .i64 K1, .int .i64 X1, .int .u64 S1])) (HM : Ct 48 #[.int .i64 w, .bool false] (.int .u64 Mx))
    (H2 : Ct 17 #[.int .i64 w, .int .u64 Mx] (.agg #[.bool n2, .int .i64 K2, .int .i64 X2, .int .u64 S2])) :
    Calls Tryd.prog 46 #[.int .i64 w] W fun r W' => r = .returned (.agg #[.int .i64 w, .int .i64 f, .int .i64 X1, .int .i64 X2]) ∧ Below W.heap.size W W' := by
  have f1 : ∀ W : World, (Instr.field 40 (.agg #[.bool n1, .int .i64 K1, .int .i64 X1, .int .u64 S1]) 2).run Tryd.prog W = .ok (.int .i64 X1) W := fun _ => by kernel_rfl
  have f2 : ∀ W : World, (Instr.field 40 (.agg #[.bool n2, .int .i64 K2, .int .i64 X2, .int .u64 S2]) 2).run Tryd.prog W = .ok (.int .i64 X2) W := fun _ => by kernel_rfl
  have HR : Hid (Room W.heap.size 4 (W.alloc (.cells #[.int .i64 0, .int .i64 0, .int .i64 0, .int .i64 0] 76))) := room4 (Below.refl _ _)
  have HB := hide (below1 W (.cells #[.int .i64 0, .int .i64 0, .int .i64 0, .int .i64 0] 76))
  go_enter Tryd.func46, Tryd.ntmps46
  go_wp2_with fail
  refine (unhide HF _).mono ?_
  rintro _ w1 ⟨rfl, hbl⟩
  have HB := hide (bthen (unhide HB) hbl)
  have HR := hide ((unhide HR).below hbl)
  clear hbl
  go_wp2_with fail
  refine (unhide H1 _).mono ?_
  rintro _ w2 ⟨rfl, hbl⟩
  have HB := hide (bthen (unhide HB) hbl)
  have HR := hide ((unhide HR).below hbl)
  clear hbl
  go_wp2_with fail
  refine (unhide HM _).mono ?_
  rintro _ w3 ⟨rfl, hbl⟩
  have HB := hide (bthen (unhide HB) hbl)
  have HR := hide ((unhide HR).below hbl)
  clear hbl
  go_wp2_with fail
  refine (unhide H2 _).mono ?_
  rintro _ w4 ⟨rfl, hbl⟩
  have HB := hide (bthen (unhide HB) hbl)
  have HR := hide ((unhide HR).below hbl)
  clear hbl
  obtain ⟨⟨v0, c0⟩, r0⟩ := (unhide HR) 0 (by omega)
  obtain ⟨⟨v1, c1⟩, r1⟩ := (unhide HR) 1 (by omega)
  obtain ⟨⟨v2, c2⟩, r2⟩ := (unhide HR) 2 (by omega)
  obtain ⟨⟨v3, c3⟩, r3⟩ := (unhide HR) 3 (by omega)
  go_wp2_with fail
  exact bodyPost_ret (v := .agg #[.int .i64 w, .int .i64 f, .int .i64 X1, .int .i64 X2]) (by simp (maxDischargeDepth := 8) [results, Tryd.results46, go_sem, c0, c1, c2, c3]) rfl ⟨rfl, bset4 (unhide HB) _ _ _ _⟩

set_option maxRecDepth 100000 in
set_option maxHeartbeats 4000000 in
theorem pack_m {w h l X f L M V : Int} {n m : Bool} (W : World) (xa : ¬ X < -4096) (xb : ¬ 4096 < X) (HO : Ct 46 #[.int .i64 w] (.agg #[.int .i64 w, .int .i64 f, .int .i64 L, .int .i64 M]))
    (HN : Ct 47 #[.agg #[.bool n, .int .u64 h, .int .u64 l, .int .i64 X, .bool m, .int .i64 w, .int .i64 f, .int .i64 L, .int .i64 M]] (.int .u64 V)) :
    Calls Tryd.prog 42 #[.int .i64 w, .bool n, .agg #[.int .u64 h, .int .u64 l], .int .i64 X, .bool m] W fun r W' => r = .returned (.int .u64 V) ∧ Below W.heap.size W W' := by
  go_enter Tryd.func42, Tryd.ntmps42
  go_wp2_with fail
  refine wp_region_held_drew (S := fun w' => w'.cell? ⟨W.heap.size, 0, none⟩ = some (.int .u64 h) ∧ w'.cell? ⟨W.heap.size, 1, none⟩ = some (.int .u64 l)) (by kernel_rfl) ?_ (fun hHeld => ?_)
  · (try dsimp only)
    simp [go_sem]
  refine wo_start (N := W.heap.size + 1) (i1 := 8) (d1 := 11) (v1 := #[.bool false, .int .u64 0, .int .u64 0, .int .i64 0, .bool false, .int .i64 0, .int .i64 0, .int .i64 0, .int .i64 0]) (t1 := 79) (f := 1) (n := 8) (T := fun w' => Below W.heap.size W w') (by kernel_rfl) (by kernel_rfl) (fun _ _ _ _ _ h => h) (stable_at2 _ _ _) ?_ (stable_below W) hHeld ((below1 W _).drew) (by simp) ?_
  · intro a w K h
    unfold wpOp
    go_simp
    exact Or.inl h
  clear hHeld
  refine woA 0 15 ?_
  refine woA 1 16 ?_
  refine woA 2 17 ?_
  refine woA 3 18 ?_
  refine woA 4 19 ?_
  refine woA 5 20 ?_
  refine wo_call (c := 6) (o := { dst := some 21, op := _, type := _, pos := _, after := _, guard := _ }) rfl (by kernel_rfl) (by kernel_rfl) (fun u hSu hTu Kk hKk => ?_)
  go_simp
  refine (unhide HO _).mono ?_
  rintro _ wn ⟨rfl, hbl⟩
  have HTn := hide (bthen hTu hbl)
  clear hTu hSu
  (try go_wp2_with fail)
  refine hKk.out _ _ (fun w' => Below W.heap.size W w') (by assumption) (stable_below W) (unhide HTn) ?_
  clear hKk Kk HTn
  (try simp only [Act.put, List.setIfInBounds_toArray, List.set_cons_zero, List.set_cons_succ])
  refine woA 7 22 ?_
  refine wo_fin (by kernel_rfl) (fun wf b1 hSu hTu k1 => ?_)
  (try simp only [Act.put, List.setIfInBounds_toArray, List.set_cons_zero, List.set_cons_succ])
  unfold ptr
  have zb := k1.base
  have HRm := hide (fresh_room9 k1)
  obtain ⟨⟨v0, c0⟩, f0⟩ := (unhide HRm) 0 (by omega)
  obtain ⟨⟨v1, c1⟩, f1⟩ := (unhide HRm) 1 (by omega)
  obtain ⟨⟨v2, c2⟩, f2⟩ := (unhide HRm) 2 (by omega)
  obtain ⟨⟨v3, c3⟩, f3⟩ := (unhide HRm) 3 (by omega)
  obtain ⟨⟨v4, c4⟩, f4⟩ := (unhide HRm) 4 (by omega)
  obtain ⟨⟨v5, c5⟩, f5⟩ := (unhide HRm) 5 (by omega)
  obtain ⟨⟨v6, c6⟩, f6⟩ := (unhide HRm) 6 (by omega)
  obtain ⟨⟨v7, c7⟩, f7⟩ := (unhide HRm) 7 (by omega)
  obtain ⟨⟨v8, c8⟩, f8⟩ := (unhide HRm) 8 (by omega)
  refine anyH_at #[true, true, true, true, true, true, true, true, true, false] (by kernel_rfl) ?_
  refine wpAnyH_ready (rs := [9]) (by kernel_rfl) (by simp) ?_
  refine AllReadyH.cons (o := { dst := none, op := _, type := _, pos := _, after := _, guard := _ }) rfl (fun Kk hKk => ?_) AllReadyH.nil
  go_simp
  refine hKk.out _ _ ?_ (fun hHeld => ?_)
  · (try dsimp only)
    exact At2.set9 hSu (by omega) _ _ _ _ _ _ _ _ _
  clear hKk Kk
  refine wpAnyH_done (by kernel_rfl) ?_ _
  have HA9 := hide (at9_set9 (unhide HRm) (.bool n) (.int .u64 h) (.int .u64 l) (.int .i64 X) (.bool m) (.int .i64 w) (.int .i64 f) (.int .i64 L) (.int .i64 M))
  have HB := hide (bset9 (c := b1) hTu (by omega) (.bool n) (.int .u64 h) (.int .u64 l) (.int .i64 X) (.bool m) (.int .i64 w) (.int .i64 f) (.int .i64 L) (.int .i64 M))
  clear hHeld hSu hTu k1 c0 c1 c2 c3 c4 c5 c6 c7 c8 f0 f1 f2 f3 f4 f5 f6 f7 f8
  generalize ((((((((wf.setCell ⟨b1, 0, none⟩ (.bool n)).setCell ⟨b1, 1, none⟩ (.int .u64 h)).setCell ⟨b1, 2, none⟩ (.int .u64 l)).setCell ⟨b1, 3, none⟩ (.int .i64 X)).setCell ⟨b1, 4, none⟩ (.bool m)).setCell ⟨b1, 5, none⟩ (.int .i64 w)).setCell ⟨b1, 6, none⟩ (.int .i64 f)).setCell ⟨b1, 7, none⟩ (.int .i64 L)).setCell ⟨b1, 8, none⟩ (.int .i64 M) = wx at *
  obtain ⟨a0, a1, a2, a3, a4, a5, a6, a7, a8⟩ := unhide HA9
  go_wp2_with fail
  refine (unhide HN _).mono ?_
  rintro _ wz ⟨rfl, hbl⟩
  have HB := hide (bthen (unhide HB) hbl)
  go_wp2_with fail
  go_ret
  exact ⟨rfl, unhide HB⟩

set_option maxRecDepth 100000 in
set_option maxHeartbeats 4000000 in
theorem pack_l {w h l X f L M V : Int} {n m : Bool} (W : World) (xa : X < -4096) (HO : Ct 46 #[.int .i64 w] (.agg #[.int .i64 w, .int .i64 f, .int .i64 L, .int .i64 M]))
    (HN : Ct 47 #[.agg #[.bool n, .int .u64 h, .int .u64 l, .int .i64 (-4096), .bool m, .int .i64 w, .int .i64 f, .int .i64 L, .int .i64 M]] (.int .u64 V)) :
    Calls Tryd.prog 42 #[.int .i64 w, .bool n, .agg #[.int .u64 h, .int .u64 l], .int .i64 X, .bool m] W fun r W' => r = .returned (.int .u64 V) ∧ Below W.heap.size W W' := by
  go_enter Tryd.func42, Tryd.ntmps42
  go_wp2_with fail
  refine wp_region_held_drew (S := fun w' => w'.cell? ⟨W.heap.size, 0, none⟩ = some (.int .u64 h) ∧ w'.cell? ⟨W.heap.size, 1, none⟩ = some (.int .u64 l)) (by kernel_rfl) ?_ (fun hHeld => ?_)
  · (try dsimp only)
    simp [go_sem]
  refine wo_start (N := W.heap.size + 1) (i1 := 8) (d1 := 11) (v1 := #[.bool false, .int .u64 0, .int .u64 0, .int .i64 0, .bool false, .int .i64 0, .int .i64 0, .int .i64 0, .int .i64 0]) (t1 := 79) (f := 1) (n := 8) (T := fun w' => Below W.heap.size W w') (by kernel_rfl) (by kernel_rfl) (fun _ _ _ _ _ h => h) (stable_at2 _ _ _) ?_ (stable_below W) hHeld ((below1 W _).drew) (by simp) ?_
  · intro a w K h
    unfold wpOp
    go_simp
    exact Or.inl h
  clear hHeld
  refine woA 0 15 ?_
  refine woA 1 16 ?_
  refine woA 2 17 ?_
  refine woA 3 18 ?_
  refine woA 4 19 ?_
  refine woA 5 20 ?_
  refine wo_call (c := 6) (o := { dst := some 21, op := _, type := _, pos := _, after := _, guard := _ }) rfl (by kernel_rfl) (by kernel_rfl) (fun u hSu hTu Kk hKk => ?_)
  go_simp
  refine (unhide HO _).mono ?_
  rintro _ wn ⟨rfl, hbl⟩
  have HTn := hide (bthen hTu hbl)
  clear hTu hSu
  (try go_wp2_with fail)
  refine hKk.out _ _ (fun w' => Below W.heap.size W w') (by assumption) (stable_below W) (unhide HTn) ?_
  clear hKk Kk HTn
  (try simp only [Act.put, List.setIfInBounds_toArray, List.set_cons_zero, List.set_cons_succ])
  refine woA 7 22 ?_
  refine wo_fin (by kernel_rfl) (fun wf b1 hSu hTu k1 => ?_)
  (try simp only [Act.put, List.setIfInBounds_toArray, List.set_cons_zero, List.set_cons_succ])
  unfold ptr
  have zb := k1.base
  have HRm := hide (fresh_room9 k1)
  obtain ⟨⟨v0, c0⟩, f0⟩ := (unhide HRm) 0 (by omega)
  obtain ⟨⟨v1, c1⟩, f1⟩ := (unhide HRm) 1 (by omega)
  obtain ⟨⟨v2, c2⟩, f2⟩ := (unhide HRm) 2 (by omega)
  obtain ⟨⟨v3, c3⟩, f3⟩ := (unhide HRm) 3 (by omega)
  obtain ⟨⟨v4, c4⟩, f4⟩ := (unhide HRm) 4 (by omega)
  obtain ⟨⟨v5, c5⟩, f5⟩ := (unhide HRm) 5 (by omega)
  obtain ⟨⟨v6, c6⟩, f6⟩ := (unhide HRm) 6 (by omega)
  obtain ⟨⟨v7, c7⟩, f7⟩ := (unhide HRm) 7 (by omega)
  obtain ⟨⟨v8, c8⟩, f8⟩ := (unhide HRm) 8 (by omega)
  refine anyH_at #[true, true, true, true, true, true, true, true, true, false] (by kernel_rfl) ?_
  refine wpAnyH_ready (rs := [9]) (by kernel_rfl) (by simp) ?_
  refine AllReadyH.cons (o := { dst := none, op := _, type := _, pos := _, after := _, guard := _ }) rfl (fun Kk hKk => ?_) AllReadyH.nil
  go_simp
  refine hKk.out _ _ ?_ (fun hHeld => ?_)
  · (try dsimp only)
    exact At2.set9 hSu (by omega) _ _ _ _ _ _ _ _ _
  clear hKk Kk
  refine wpAnyH_done (by kernel_rfl) ?_ _
  have HA9 := hide (at9_set9 (unhide HRm) (.bool n) (.int .u64 h) (.int .u64 l) (.int .i64 (-4096)) (.bool m) (.int .i64 w) (.int .i64 f) (.int .i64 L) (.int .i64 M))
  have HB := hide (bset9 (c := b1) hTu (by omega) (.bool n) (.int .u64 h) (.int .u64 l) (.int .i64 (-4096)) (.bool m) (.int .i64 w) (.int .i64 f) (.int .i64 L) (.int .i64 M))
  clear hHeld hSu hTu k1 c0 c1 c2 c3 c4 c5 c6 c7 c8 f0 f1 f2 f3 f4 f5 f6 f7 f8
  generalize ((((((((wf.setCell ⟨b1, 0, none⟩ (.bool n)).setCell ⟨b1, 1, none⟩ (.int .u64 h)).setCell ⟨b1, 2, none⟩ (.int .u64 l)).setCell ⟨b1, 3, none⟩ (.int .i64 (-4096))).setCell ⟨b1, 4, none⟩ (.bool m)).setCell ⟨b1, 5, none⟩ (.int .i64 w)).setCell ⟨b1, 6, none⟩ (.int .i64 f)).setCell ⟨b1, 7, none⟩ (.int .i64 L)).setCell ⟨b1, 8, none⟩ (.int .i64 M) = wx at *
  obtain ⟨a0, a1, a2, a3, a4, a5, a6, a7, a8⟩ := unhide HA9
  go_wp2_with fail
  refine (unhide HN _).mono ?_
  rintro _ wz ⟨rfl, hbl⟩
  have HB := hide (bthen (unhide HB) hbl)
  go_wp2_with fail
  go_ret
  exact ⟨rfl, unhide HB⟩

set_option maxRecDepth 100000 in
set_option maxHeartbeats 4000000 in
theorem pack_h {w h l X f L M V : Int} {n m : Bool} (W : World) (xa : ¬ X < -4096) (xb : 4096 < X) (HO : Ct 46 #[.int .i64 w] (.agg #[.int .i64 w, .int .i64 f, .int .i64 L, .int .i64 M]))
    (HN : Ct 47 #[.agg #[.bool n, .int .u64 h, .int .u64 l, .int .i64 4096, .bool m, .int .i64 w, .int .i64 f, .int .i64 L, .int .i64 M]] (.int .u64 V)) :
    Calls Tryd.prog 42 #[.int .i64 w, .bool n, .agg #[.int .u64 h, .int .u64 l], .int .i64 X, .bool m] W fun r W' => r = .returned (.int .u64 V) ∧ Below W.heap.size W W' := by
  go_enter Tryd.func42, Tryd.ntmps42
  go_wp2_with fail
  refine wp_region_held_drew (S := fun w' => w'.cell? ⟨W.heap.size, 0, none⟩ = some (.int .u64 h) ∧ w'.cell? ⟨W.heap.size, 1, none⟩ = some (.int .u64 l)) (by kernel_rfl) ?_ (fun hHeld => ?_)
  · (try dsimp only)
    simp [go_sem]
  refine wo_start (N := W.heap.size + 1) (i1 := 8) (d1 := 11) (v1 := #[.bool false, .int .u64 0, .int .u64 0, .int .i64 0, .bool false, .int .i64 0, .int .i64 0, .int .i64 0, .int .i64 0]) (t1 := 79) (f := 1) (n := 8) (T := fun w' => Below W.heap.size W w') (by kernel_rfl) (by kernel_rfl) (fun _ _ _ _ _ h => h) (stable_at2 _ _ _) ?_ (stable_below W) hHeld ((below1 W _).drew) (by simp) ?_
  · intro a w K h
    unfold wpOp
    go_simp
    exact Or.inl h
  clear hHeld
  refine woA 0 15 ?_
  refine woA 1 16 ?_
  refine woA 2 17 ?_
  refine woA 3 18 ?_
  refine woA 4 19 ?_
  refine woA 5 20 ?_
  refine wo_call (c := 6) (o := { dst := some 21, op := _, type := _, pos := _, after := _, guard := _ }) rfl (by kernel_rfl) (by kernel_rfl) (fun u hSu hTu Kk hKk => ?_)
  go_simp
  refine (unhide HO _).mono ?_
  rintro _ wn ⟨rfl, hbl⟩
  have HTn := hide (bthen hTu hbl)
  clear hTu hSu
  (try go_wp2_with fail)
  refine hKk.out _ _ (fun w' => Below W.heap.size W w') (by assumption) (stable_below W) (unhide HTn) ?_
  clear hKk Kk HTn
  (try simp only [Act.put, List.setIfInBounds_toArray, List.set_cons_zero, List.set_cons_succ])
  refine woA 7 22 ?_
  refine wo_fin (by kernel_rfl) (fun wf b1 hSu hTu k1 => ?_)
  (try simp only [Act.put, List.setIfInBounds_toArray, List.set_cons_zero, List.set_cons_succ])
  unfold ptr
  have zb := k1.base
  have HRm := hide (fresh_room9 k1)
  obtain ⟨⟨v0, c0⟩, f0⟩ := (unhide HRm) 0 (by omega)
  obtain ⟨⟨v1, c1⟩, f1⟩ := (unhide HRm) 1 (by omega)
  obtain ⟨⟨v2, c2⟩, f2⟩ := (unhide HRm) 2 (by omega)
  obtain ⟨⟨v3, c3⟩, f3⟩ := (unhide HRm) 3 (by omega)
  obtain ⟨⟨v4, c4⟩, f4⟩ := (unhide HRm) 4 (by omega)
  obtain ⟨⟨v5, c5⟩, f5⟩ := (unhide HRm) 5 (by omega)
  obtain ⟨⟨v6, c6⟩, f6⟩ := (unhide HRm) 6 (by omega)
  obtain ⟨⟨v7, c7⟩, f7⟩ := (unhide HRm) 7 (by omega)
  obtain ⟨⟨v8, c8⟩, f8⟩ := (unhide HRm) 8 (by omega)
  refine anyH_at #[true, true, true, true, true, true, true, true, true, false] (by kernel_rfl) ?_
  refine wpAnyH_ready (rs := [9]) (by kernel_rfl) (by simp) ?_
  refine AllReadyH.cons (o := { dst := none, op := _, type := _, pos := _, after := _, guard := _ }) rfl (fun Kk hKk => ?_) AllReadyH.nil
  go_simp
  refine hKk.out _ _ ?_ (fun hHeld => ?_)
  · (try dsimp only)
    exact At2.set9 hSu (by omega) _ _ _ _ _ _ _ _ _
  clear hKk Kk
  refine wpAnyH_done (by kernel_rfl) ?_ _
  have HA9 := hide (at9_set9 (unhide HRm) (.bool n) (.int .u64 h) (.int .u64 l) (.int .i64 4096) (.bool m) (.int .i64 w) (.int .i64 f) (.int .i64 L) (.int .i64 M))
  have HB := hide (bset9 (c := b1) hTu (by omega) (.bool n) (.int .u64 h) (.int .u64 l) (.int .i64 4096) (.bool m) (.int .i64 w) (.int .i64 f) (.int .i64 L) (.int .i64 M))
  clear hHeld hSu hTu k1 c0 c1 c2 c3 c4 c5 c6 c7 c8 f0 f1 f2 f3 f4 f5 f6 f7 f8
  generalize ((((((((wf.setCell ⟨b1, 0, none⟩ (.bool n)).setCell ⟨b1, 1, none⟩ (.int .u64 h)).setCell ⟨b1, 2, none⟩ (.int .u64 l)).setCell ⟨b1, 3, none⟩ (.int .i64 4096)).setCell ⟨b1, 4, none⟩ (.bool m)).setCell ⟨b1, 5, none⟩ (.int .i64 w)).setCell ⟨b1, 6, none⟩ (.int .i64 f)).setCell ⟨b1, 7, none⟩ (.int .i64 L)).setCell ⟨b1, 8, none⟩ (.int .i64 M) = wx at *
  obtain ⟨a0, a1, a2, a3, a4, a5, a6, a7, a8⟩ := unhide HA9
  go_wp2_with fail
  refine (unhide HN _).mono ?_
  rintro _ wz ⟨rfl, hbl⟩
  have HB := hide (bthen (unhide HB) hbl)
  go_wp2_with fail
  go_ret
  exact ⟨rfl, unhide HB⟩

end Go.Proofs.YtmbkpmcmhmldgaaDoor
namespace Go.Proofs.YtmbkpmcmhmldgaaDoor
open Go.RowKit
open Go.Proofs.YtmbkpmcmhmldgaaDoor.W

/-- What is taken of the halves. -/
def pick (N : Nat) (lost : Bool) : Nat := if N % 2 = 1 ∧ (lost = true ∨ N / 2 % 2 = 1) then N / 2 + 1 else N / 2

theorem half_parts (N : Nat) (h : N < 4611686018427387904) : (N : Int) / 2 = ((N / 2 : Nat) : Int) ∧ bits .and .u64 (N : Int) 1 = ((N % 2 : Nat) : Int) := by
  refine ⟨by omega, ?_⟩
  rw [and_mask 1 (N : Int) 1 (by omega) (by omega) rfl (by omega)]
  omega

theorem nearest_pick {h l E w f L M V T U : Int} {n m lost : Bool} {N s : Nat} (W : World) (HN : Ct 49 #[.agg #[.bool n, .int .u64 h, .int .u64 l, .int .i64 E, .bool m]] (.bool false)) (HT : Ct 51 #[.agg #[.bool n, .int .u64 h, .int .u64 l, .int .i64 E, .bool m]] (.int .i64 T))
    (t0 : -10000 ≤ T) (t1 : T ≤ 10000) (f0 : 0 ≤ f) (f1 : f ≤ 63) (hU : U = if T - f < L then L else T - f) (hN : N < 4611686018427387904) (hs : pick N lost = s)
    (HH : Ct 52 #[.agg #[.bool n, .int .u64 h, .int .u64 l, .int .i64 E, .bool m], .int .i64 U] (.tuple #[.int .u64 (N : Int), .bool lost])) (HF : Ct 53 #[.agg #[.bool n, .int .u64 h, .int .u64 l, .int .i64 E, .bool m, .int .i64 w, .int .i64 f, .int .i64 L, .int .i64 M], .int .u64 (s : Int), .int .i64 U] (.int .u64 V)) :
    Calls Tryd.prog 47 #[.agg #[.bool n, .int .u64 h, .int .u64 l, .int .i64 E, .bool m, .int .i64 w, .int .i64 f, .int .i64 L, .int .i64 M]] W fun r W' => r = .returned (.int .u64 V) ∧ Below W.heap.size W W' := by
  have kt : IntKind.i64.wrap (T - f) = T - f := i64_id (by omega) (by omega)
  obtain ⟨kN, ka⟩ := half_parts N hN
  obtain ⟨_, kb⟩ := half_parts (N / 2) (by omega)
  have kw : IntKind.u64.wrap (((N / 2 : Nat) : Int) + 1) = ((N / 2 : Nat) : Int) + 1 := by rw [IntKind.wrap_u64]; omega
  unfold pick at hs
  by_cases h1 : N % 2 = 1
  · have kh : (((N % 2 : Nat) : Int) == 1) = true := eq_t (by omega)
    cases lost
    · by_cases h2 : N / 2 % 2 = 1
      · have ko : (((N / 2 % 2 : Nat) : Int) == 1) = true := eq_t (by omega)
        rw [if_pos ⟨h1, Or.inr h2⟩] at hs
        rw [← hs, show ((N / 2 + 1 : Nat) : Int) = ((N / 2 : Nat) : Int) + 1 by omega] at HF
        by_cases xm : T - f < L
        · rw [if_pos xm] at hU; subst hU
          exact nearest_lo W HN HT kt xm kN ka kh kb ko kw HH HF
        · rw [if_neg xm] at hU; subst hU
          exact nearest_do W HN HT kt xm kN ka kh kb ko kw HH HF
      · have ko : (((N / 2 % 2 : Nat) : Int) == 1) = false := eq_f (by omega)
        rw [if_neg (by simp; omega)] at hs
        rw [← hs] at HF
        by_cases xm : T - f < L
        · rw [if_pos xm] at hU; subst hU
          exact nearest_le W HN HT kt xm kN ka kh kb ko HH HF
        · rw [if_neg xm] at hU; subst hU
          exact nearest_de W HN HT kt xm kN ka kh kb ko HH HF
    · rw [if_pos ⟨h1, Or.inl rfl⟩] at hs
      rw [← hs, show ((N / 2 + 1 : Nat) : Int) = ((N / 2 : Nat) : Int) + 1 by omega] at HF
      by_cases xm : T - f < L
      · rw [if_pos xm] at hU; subst hU
        exact nearest_lu W HN HT kt xm kN ka kh kw HH HF
      · rw [if_neg xm] at hU; subst hU
        exact nearest_du W HN HT kt xm kN ka kh kw HH HF
  · have kh : (((N % 2 : Nat) : Int) == 1) = false := eq_f (by omega)
    rw [if_neg (fun hh => h1 hh.1)] at hs
    rw [← hs] at HF
    by_cases xm : T - f < L
    · rw [if_pos xm] at hU; subst hU
      exact nearest_ln W HN HT kt xm kN ka kh HH HF
    · rw [if_neg xm] at hU; subst hU
      exact nearest_dn W HN HT kt xm kN ka kh HH HF

theorem pow_split2 (a b : Nat) (c : Nat) (h : a = b + c) : 2 ^ a = 2 ^ b * 2 ^ c := by rw [h, Nat.pow_add]

theorem halves_near (v : Nat) (n m : Bool) (E U : Int) (hv : W2 v) (e0 : -4096 ≤ E) (e1 : E ≤ 4096) (u0 : -4500 ≤ U) (u1 : U ≤ 5000) (hB : (Go.bitLen v : Int) + E ≤ U + 60) :
    ∃ (N : Nat) (lost : Bool), N < 4611686018427387904 ∧ pick N lost = near ((2 * v + m.toNat) * 2 ^ (E + 4999).toNat) (2 ^ (U + 5000).toNat) ∧
      ∀ W : World, Calls Tryd.prog 52 #[.agg #[.bool n, .int .u64 (hi v), .int .u64 (lo v), .int .i64 E, .bool m], .int .i64 U] W fun r W' => r = .returned (.tuple #[.int .u64 (N : Int), .bool lost]) ∧ Below W.heap.size W W' := by
  have hm : m.toNat ≤ 1 := by cases m <;> simp
  have hm1 : m.toNat = 1 ↔ m = true := by cases m <;> simp
  by_cases g : E < U
  · obtain ⟨j, hj⟩ : ∃ j : Nat, U - E - 1 = j := ⟨(U - E - 1).toNat, by omega⟩
    have hN : v / 2 ^ j < 2 ^ 61 := by
      rw [Nat.div_lt_iff_lt_mul (Nat.two_pow_pos j), ← Nat.pow_add]
      exact bl_lt (by omega)
    refine ⟨v / 2 ^ j, lostB v j || m, by omega, ?_, ?_⟩
    · rw [pow_split2 (U + 5000).toNat (j + 2) (E + 4999).toNat (by omega), near_scale _ _ _ (Nat.two_pow_pos _), near_halves v m.toNat j _ _ hm rfl rfl]
      unfold pick
      have : ((lostB v j || m) = true) = (v % 2 ^ j ≠ 0 ∨ m.toNat = 1) := by
        unfold lostB
        rw [hm1, Int.toNat_natCast]
        simp
      simp only [this]
    · intro W
      have k1 : IntKind.i64.wrap (U - E) = U - E := i64_id (by omega) (by omega)
      have k2 : IntKind.i64.wrap (U - E - 1) = U - E - 1 := i64_id (by omega) (by omega)
      have hr := fun W => right_n v (U - E - 1) W hv
      have el : lo (shrN v (U - E - 1)) = ((v / 2 ^ j : Nat) : Int) := by
        unfold shrN
        rw [hj, Int.toNat_natCast, lo_small (by omega)]
      rw [← el, ← hj]
      cases hl : lostB v (U - E - 1)
      · rw [hl] at hr
        exact halves_gf W (hide hr) g k1 k2
      · rw [hl] at hr
        exact halves_gt W (hide hr) g k1 k2
  · obtain ⟨k, hk⟩ : ∃ k : Nat, E - U = k := ⟨(E - U).toNat, by omega⟩
    have hbl : Go.bitLen v + k ≤ 60 := by omega
    have hvl := bl_lt (x := v) (k := Go.bitLen v) (Nat.le_refl _)
    have hv60 : v < 2 ^ 60 := bl_lt (by omega)
    have hN : (2 * v + m.toNat) * 2 ^ k < 2 ^ 61 := by
      have h1 : (2 * v + m.toNat) * 2 ^ k < 2 ^ (Go.bitLen v + 1) * 2 ^ k := Nat.mul_lt_mul_of_pos_right (by rw [Nat.pow_succ]; omega) (Nat.two_pow_pos k)
      rw [← Nat.pow_add] at h1
      exact Nat.lt_of_lt_of_le h1 (Nat.pow_le_pow_right (by omega) (by omega))
    refine ⟨(2 * v + m.toNat) * 2 ^ k, false, by omega, ?_, ?_⟩
    · rw [pow_split2 (U + 5000).toNat 1 (U + 4999).toNat (by omega), pow_split2 (E + 4999).toNat k (U + 4999).toNat (by omega), ← Nat.mul_assoc, near_scale _ _ _ (Nat.two_pow_pos _), Nat.pow_one, near_two]
      unfold pick
      simp
    · intro W
      have k1 : IntKind.i64.wrap (E - U) = E - U := i64_id (by omega) (by omega)
      have h1 := fun W => left_n v 1 W hv
      have es : shlN v 1 = 2 * v := by
        unfold shlN
        rw [show (1 : Int).toNat = 1 from rfl, Nat.mod_eq_of_lt (by omega)]
        omega
      rw [es] at h1
      have hw : W2 (2 * v + m.toNat) := by unfold W2; omega
      have h2 := fun W => left_n (2 * v + m.toNat) (E - U) W hw
      have es2 : shlN (2 * v + m.toNat) (E - U) = (2 * v + m.toNat) * 2 ^ k := by
        unfold shlN
        rw [hk, Int.toNat_natCast, Nat.mod_eq_of_lt (by omega)]
      have el : lo (shlN (2 * v + m.toNat) (E - U)) = (((2 * v + m.toNat) * 2 ^ k : Nat) : Int) := by
        rw [es2, lo_small (by omega)]
      rw [← el]
      cases m
      · exact halves_lf W (hide h1) (hide h2) g k1
      · have eh : hi (2 * v + Bool.toNat true) = hi (2 * v) := by unfold hi; simp; omega
        have el' : lo (2 * v + Bool.toNat true) = lo (2 * v) + 1 := by unfold lo; simp; omega
        rw [eh, el'] at h2
        exact halves_lt W (hide h1) (hide h2) g k1 (or_sum 1 (lo (2 * v)) 1 (lo_0 _) (lo_1 _) (by unfold lo; simp) (by omega) (by simp) (by omega))

end Go.Proofs.YtmbkpmcmhmldgaaDoor
namespace Go.Proofs.YtmbkpmcmhmldgaaDoor
open Go.RowKit
open Go.Proofs.YtmbkpmcmhmldgaaDoor.W

/-- An exponent, brought near. -/
def cap (X : Int) : Int := if X < -4096 then -4096 else if 4096 < X then 4096 else X
theorem cap_in (X : Int) : -4096 ≤ cap X ∧ cap X ≤ 4096 := by unfold cap; split <;> (try split) <;> omega
/-- The least floats' last bit, 5000 bits up. -/
def lowN (f b : Int) : Nat := (5001 - b - f).toNat
/-- A code, no more than the infinite one's. -/
def lid (P Q c : Int) : Int := if (Q - 1) * P ≤ c then (Q - 1) * P else c
/-- The float of a code and a sign. -/
def fl (f P Q : Int) (n : Bool) (c : Int) : Int := put f P Q n (c / P) (c % P)
/-- The number (2 · v + m) · 2^(X - 1), 5000 bits up. -/
def num (v : Nat) (m : Bool) (X : Int) : Nat := (2 * v + m.toNat) * 2 ^ (X + 4999).toNat

theorem fl_eq {f P Q c x y : Int} (n : Bool) (h1 : c / P = x) (h2 : c % P = y) : fl f P Q n c = put f P Q n x y := by unfold fl; rw [h1, h2]

set_option maxHeartbeats 1000000 in
theorem float_known {w e f P Q b h l E : Int} (k : Kd w e f P Q b) (n m : Bool) (s : Nat) (U : Int) (hs : (s : Int) ≤ 2 * P) (hd : 1 - b - f < U → P ≤ (s : Int)) (hL : 1 - b - f ≤ U) (u1 : U ≤ 10000) (W : World) :
    Calls Tryd.prog 53 #[.agg #[.bool n, .int .u64 h, .int .u64 l, .int .i64 E, .bool m, .int .i64 w, .int .i64 f, .int .i64 (1 - b - f), .int .i64 (Q - 2 - b - f)], .int .u64 (s : Int), .int .i64 U] W fun r W' => r = .returned (.int .u64 (fl f P Q n (lid P Q ((U - (1 - b - f)) * P + (s : Int))))) ∧ Below W.heap.size W W' := by
  have HZ := hide (fun W => zero_any n k.wd W)
  have HI := hide (fun W => inf_any n k.wd W)
  have HC := fun (X S V c : Int) (s0 : 0 ≤ S) (s1 : S < 18446744073709551616) (hc : ClosedF f P Q b n X S V c) => hide (fun W => close_any (K := 1) W k s0 s1 (Or.inl ⟨rfl, hc⟩))
  unfold ClosedF at HC
  have g0 : 0 ≤ f := by rcases k with k | k <;> omega
  have g1 : f ≤ 63 := by rcases k with k | k <;> omega
  have hP : (2 : Int) ^ f.toNat = P := by rcases k with ⟨_, _, rfl, rfl, _⟩ | ⟨_, _, rfl, rfl, _⟩ <;> rfl
  have kd : (s : Int) / 2 ^ f.toNat = (s : Int) / P := by rw [hP]
  have ku : IntKind.i64.wrap (U + 1) = U + 1 := i64_id (by rcases k with k | k <;> omega) (by omega)
  rcases k with ⟨rfl, rfl, rfl, rfl, rfl, rfl⟩ | ⟨rfl, rfl, rfl, rfl, rfl, rfl⟩
  · unfold lid
    by_cases hb : 1 < (s : Int) / 8388608
    · by_cases g : 256 - 2 - 127 - 23 < U + 1
      · rw [if_pos (by omega), fl_eq n (x := 256 - 1) (y := 0) (by rfl) (by rfl)]
        exact float_bi W g0 g1 kd hb rfl ku (eq_f (by omega)) (dt g) HI
      · rw [if_neg (by omega), fl_eq n (x := U + 1 + 127 + 23) (y := 0) (by omega) (by omega)]
        exact float_bc W g0 g1 kd hb rfl ku (eq_f (by omega)) (df g) (HC (U + 1) _ _ 0 (by omega) (by omega) (Or.inr (Or.inl ⟨by omega, by omega, by omega, by omega, by rw [show (s : Int) / 2 % 8388608 = 0 by omega], rfl⟩)))
    · by_cases hz : (s : Int) = 0
      · rw [if_neg (by omega), fl_eq n (x := 0) (y := 0) (by omega) (by omega)]
        exact float_sz W g0 g1 kd hb (eq_t hz) HZ
      · by_cases g : 256 - 2 - 127 - 23 < U
        · rw [if_pos (by omega), fl_eq n (x := 256 - 1) (y := 0) (by rfl) (by rfl)]
          exact float_si W g0 g1 kd hb (eq_f hz) (dt g) HI
        · rw [if_neg (by omega)]
          by_cases ht : (s : Int) < 8388608
          · rw [fl_eq n (x := 0) (y := (s : Int) % 8388608) (by omega) (by omega)]
            exact float_sc W g0 g1 kd hb (eq_f hz) (df g) (HC U _ _ 0 (by omega) (by omega) (Or.inl ⟨ht, hz, by omega, rfl, rfl⟩))
          · rw [fl_eq n (x := U + 127 + 23) (y := (s : Int) % 8388608) (by omega) (by omega)]
            exact float_sc W g0 g1 kd hb (eq_f hz) (df g) (HC U _ _ 0 (by omega) (by omega) (Or.inr (Or.inl ⟨by omega, by omega, by omega, by omega, rfl, rfl⟩)))
  · unfold lid
    by_cases hb : 1 < (s : Int) / 4503599627370496
    · by_cases g : 2048 - 2 - 1023 - 52 < U + 1
      · rw [if_pos (by omega), fl_eq n (x := 2048 - 1) (y := 0) (by rfl) (by rfl)]
        exact float_bi W g0 g1 kd hb rfl ku (eq_f (by omega)) (dt g) HI
      · rw [if_neg (by omega), fl_eq n (x := U + 1 + 1023 + 52) (y := 0) (by omega) (by omega)]
        exact float_bc W g0 g1 kd hb rfl ku (eq_f (by omega)) (df g) (HC (U + 1) _ _ 0 (by omega) (by omega) (Or.inr (Or.inl ⟨by omega, by omega, by omega, by omega, by rw [show (s : Int) / 2 % 4503599627370496 = 0 by omega], rfl⟩)))
    · by_cases hz : (s : Int) = 0
      · rw [if_neg (by omega), fl_eq n (x := 0) (y := 0) (by omega) (by omega)]
        exact float_sz W g0 g1 kd hb (eq_t hz) HZ
      · by_cases g : 2048 - 2 - 1023 - 52 < U
        · rw [if_pos (by omega), fl_eq n (x := 2048 - 1) (y := 0) (by rfl) (by rfl)]
          exact float_si W g0 g1 kd hb (eq_f hz) (dt g) HI
        · rw [if_neg (by omega)]
          by_cases ht : (s : Int) < 4503599627370496
          · rw [fl_eq n (x := 0) (y := (s : Int) % 4503599627370496) (by omega) (by omega)]
            exact float_sc W g0 g1 kd hb (eq_f hz) (df g) (HC U _ _ 0 (by omega) (by omega) (Or.inl ⟨ht, hz, by omega, rfl, rfl⟩))
          · rw [fl_eq n (x := U + 1023 + 52) (y := (s : Int) % 4503599627370496) (by omega) (by omega)]
            exact float_sc W g0 g1 kd hb (eq_f hz) (df g) (HC U _ _ 0 (by omega) (by omega) (Or.inr (Or.inl ⟨by omega, by omega, by omega, by omega, rfl, rfl⟩)))

theorem Kd.pow {w e f P Q b : Int} (k : Kd w e f P Q b) : P = ((2 ^ f.toNat : Nat) : Int) ∧ 0 ≤ f ∧ f ≤ 52 ∧ -1074 ≤ 1 - b - f ∧ 1 - b - f ≤ 0 ∧ 127 ≤ b ∧ b ≤ 1023 := by
  rcases k with ⟨_, _, rfl, rfl, _, rfl⟩ | ⟨_, _, rfl, rfl, _, rfl⟩ <;> exact ⟨rfl, by omega, by omega, by omega, by omega, by omega, by omega⟩

theorem num_len (v : Nat) (m : Bool) (E : Int) (h : ¬ (v = 0 ∧ m = false)) : Go.bitLen (num v m E) = (E + 4999).toNat + (Go.bitLen v + 1) := by
  have hm : m.toNat ≤ 1 := by cases m <;> simp
  have hne : 2 * v + m.toNat ≠ 0 := by cases m <;> simp at h ⊢ <;> omega
  unfold num
  rw [bl_shl _ _ hne, bl_two v m.toNat hm hne]

set_option maxHeartbeats 1000000 in
theorem nearest_known {w e f P Q b : Int} (v : Nat) (n m : Bool) (E : Int) (k : Kd w e f P Q b) (hv : W2 v) (e0 : -4096 ≤ E) (e1 : E ≤ 4096) (W : World) :
    Calls Tryd.prog 47 #[.agg #[.bool n, .int .u64 (hi v), .int .u64 (lo v), .int .i64 E, .bool m, .int .i64 w, .int .i64 f, .int .i64 (1 - b - f), .int .i64 (Q - 2 - b - f)]] W fun r W' => r = .returned (.int .u64 (fl f P Q n (lid P Q (code f.toNat (lowN f b) (num v m E) : Nat)))) ∧ Below W.heap.size W W' := by
  have HN := hide (fun W => isNought_any v E n m W)
  obtain ⟨hP, f0, f1, l0, l1, b0, b1⟩ := k.pow
  by_cases hz : v = 0 ∧ m = false
  · obtain ⟨rfl, rfl⟩ := hz
    have : num 0 false E = 0 := by unfold num; simp
    rw [this, code_zero]
    have hq : ¬ (Q - 1) * P ≤ ((0 : Nat) : Int) := by rcases k with ⟨_, _, _, rfl, rfl, _⟩ | ⟨_, _, _, rfl, rfl, _⟩ <;> omega
    unfold lid
    rw [if_neg hq, fl_eq n (x := 0) (y := 0) (by simp) (by simp)]
    exact nearest_z W HN (hide (fun W => zero_any n k.wd W))
  · have hNv : (decide (v = 0) && !m) = false := by cases m <;> simp at hz ⊢; exact hz
    rw [hNv] at HN
    have hbl : Go.bitLen v ≤ 128 := bitLen_128 hv
    have hl := num_len v m E hz
    have HT := hide (fun W => top_l (n := n) (m := m) W (hide (fun W => len_n v W hv)) (i64_id (x := E + (Go.bitLen v : Int)) (by omega) (by omega)) (i64_id (by omega) (by omega)))
    obtain ⟨U, hU⟩ : ∃ U : Int, U = if E + (Go.bitLen v : Int) - 1 - f < 1 - b - f then 1 - b - f else E + (Go.bitLen v : Int) - 1 - f := ⟨_, rfl⟩
    have hU1 : 1 - b - f ≤ U ∧ E + (Go.bitLen v : Int) - 1 - f ≤ U ∧ U ≤ 5000 := by rw [hU]; split <;> omega
    have hu : unitOf f.toNat (lowN f b) (num v m E) = (U + 5000).toNat := by
      unfold unitOf lowN
      rw [hl, hU]
      split <;> omega
    obtain ⟨N, lost, hN, hp, hH⟩ := halves_near v n m E U hv e0 e1 (by omega) (by omega) (by omega)
    have hup := unit_up f.toNat (lowN f b) (num v m E)
    have hdn := fun h => unit_dn (f := f.toNat) (L := lowN f b) (X := num v m E) h
    have hcode : ((code f.toNat (lowN f b) (num v m E) : Nat) : Int) = (U - (1 - b - f)) * P + (near (num v m E) (2 ^ (U + 5000).toNat) : Nat) := by
      unfold code
      rw [hu, hP, show (U - (1 - b - f)) = (((U + 5000).toNat - lowN f b : Nat) : Int) by unfold lowN; omega]
      simp
    rw [hu] at hup hdn
    change pick N lost = near (num v m E) _ at hp
    generalize hsg : near (num v m E) (2 ^ (U + 5000).toNat) = s at *
    rw [hcode]
    refine nearest_pick (T := E + (Go.bitLen v : Int) - 1) (U := U) (N := N) (s := s) (lost := lost) W HN HT (by omega) (by omega) f0 (by omega) hU hN hp (hide hH) (hide (fun W => float_known k n m s U ?_ ?_ hU1.1 (by omega) W))
    · rw [hP]; omega
    · intro hlt
      rw [hP]
      have := hdn (by unfold lowN; omega)
      omega

theorem floatsOf_known {w e f P Q b : Int} (k : Kd w e f P Q b) (W : World) :
    Calls Tryd.prog 46 #[.int .i64 w] W fun r W' => r = .returned (.agg #[.int .i64 w, .int .i64 f, .int .i64 (1 - b - f), .int .i64 (Q - 2 - b - f)]) ∧ Below W.heap.size W W' := by
  have HF := hide (fun W => fields_any k.wd W)
  have HM := hide (fun W => most_w false k.wd W)
  have hm : put f P Q false (Q - 2) (P - 1) = (Q - 2) * P + (P - 1) := put_no k.f0
  rw [hm] at HM
  have ho1 : Opened f P Q b (sg P Q 1) (1 / P % Q) (1 % P) false 1 (1 - b - f) 1 := by
    unfold Opened sg
    rcases k with ⟨rfl, rfl, rfl, rfl, rfl, rfl⟩ | ⟨rfl, rfl, rfl, rfl, rfl, rfl⟩ <;> simp
  have ho2 : Opened f P Q b (sg P Q ((Q - 2) * P + (P - 1))) (((Q - 2) * P + (P - 1)) / P % Q) (((Q - 2) * P + (P - 1)) % P) false 1 (Q - 2 - b - f) (2 * P - 1) := by
    unfold Opened sg
    rcases k with ⟨rfl, rfl, rfl, rfl, rfl, rfl⟩ | ⟨rfl, rfl, rfl, rfl, rfl, rfl⟩ <;> simp
  have hr : 0 ≤ (Q - 2) * P + (P - 1) ∧ (Q - 2) * P + (P - 1) < 18446744073709551616 := by
    rcases k with ⟨rfl, rfl, rfl, rfl, rfl, rfl⟩ | ⟨rfl, rfl, rfl, rfl, rfl, rfl⟩ <;> omega
  exact floatsOf_l W HF (hide (fun W => open_any 1 k.wd W (by omega) (by omega) ho1)) HM (hide (fun W => open_any _ k.wd W hr.1 hr.2 ho2))

/-- Pack: the float of the number's code. -/
theorem pack_known {w e f P Q b : Int} (v : Nat) (n m : Bool) (X : Int) (k : Kd w e f P Q b) (hv : W2 v) (W : World) :
    Calls Tryd.prog 42 #[.int .i64 w, .bool n, .agg #[.int .u64 (hi v), .int .u64 (lo v)], .int .i64 X, .bool m] W fun r W' => r = .returned (.int .u64 (fl f P Q n (lid P Q (code f.toNat (lowN f b) (num v m (cap X)) : Nat)))) ∧ Below W.heap.size W W' := by
  obtain ⟨c0, c1⟩ := cap_in X
  have HO := hide (fun W => floatsOf_known k W)
  have HN := hide (fun W => nearest_known v n m (cap X) k hv c0 c1 W)
  by_cases h1 : X < -4096
  · have : cap X = -4096 := by unfold cap; rw [if_pos h1]
    rw [this] at HN ⊢
    exact pack_l W h1 HO HN
  · by_cases h2 : 4096 < X
    · have : cap X = 4096 := by unfold cap; rw [if_neg h1, if_pos h2]
      rw [this] at HN ⊢
      exact pack_h W h1 h2 HO HN
    · have : cap X = X := by unfold cap; rw [if_neg h1, if_neg h2]
      rw [this] at HN ⊢
      exact pack_m W h1 h2 HO HN
end Go.Proofs.YtmbkpmcmhmldgaaDoor
namespace Go.Proofs.YtmbkpmcmhmldgaaDoor
open Go.RowKit
open Go.Proofs.YtmbkpmcmhmldgaaDoor.W

theorem kd_32 : Kd 32 8 23 8388608 256 127 := Or.inl ⟨rfl, rfl, rfl, rfl, rfl, rfl⟩
theorem kd_64 : Kd 64 11 52 4503599627370496 2048 1023 := Or.inr ⟨rfl, rfl, rfl, rfl, rfl, rfl⟩
end Go.Proofs.YtmbkpmcmhmldgaaDoor
namespace Go.Proofs.YtmbkpmcmhmldgaaDoor
open Go.RowKit
open Go.Proofs.YtmbkpmcmhmldgaaDoor.W

theorem num_exact (s j : Nat) (E : Int) (h : -4999 ≤ E - j) : num (s * 2 ^ j) false (E - j) = s * 2 ^ (E + 5000).toNat := by
  unfold num
  rw [show 2 * (s * 2 ^ j) + Bool.toNat false = s * 2 ^ j * 2 ^ 1 by simp; omega, Nat.mul_assoc, Nat.mul_assoc, ← Nat.pow_add, ← Nat.pow_add, show j + (1 + (E - j + 4999).toNat) = (E + 5000).toNat by omega]
theorem num_plain (s : Nat) (E : Int) (h : -4999 ≤ E) : num s false E = s * 2 ^ (E + 5000).toNat := by
  have := num_exact s 0 E (by omega)
  simpa using this

theorem cap_id {X : Int} (h0 : -4096 ≤ X) (h1 : X ≤ 4096) : cap X = X := by
  unfold cap
  rw [if_neg (by omega), if_neg (by omega)]

end Go.Proofs.YtmbkpmcmhmldgaaDoor
namespace Go.Proofs.YtmbkpmcmhmldgaaDoor
open Go.RowKit
open Go.Proofs.YtmbkpmcmhmldgaaDoor.W

theorem small_w2 {x : Int} (x0 : 0 ≤ x) (x1 : x < 18446744073709551616) : W2 x.toNat := by unfold W2; omega
end Go.Proofs.YtmbkpmcmhmldgaaDoor
namespace Go.Proofs.YtmbkpmcmhmldgaaDoor
open Go.RowKit
open Go.Proofs.YtmbkpmcmhmldgaaDoor.W

/-- The number of a float's parts, 5000 bits up. -/
def mag (X S : Int) : Nat := S.toNat * 2 ^ (X + 5000).toNat
/-- The float that is nearest to a number. -/
def rd (f P Q b : Int) (n : Bool) (M : Nat) : Int := fl f P Q n (lid P Q (code f.toNat (lowN f b) M : Nat))
/-- The sum of two floats that are taken apart. -/
def addP (f P Q b : Int) (n1 : Bool) (K1 : Int) (M1 : Nat) (n2 : Bool) (K2 : Int) (M2 : Nat) : Int :=
  if K1 = 3 ∨ K2 = 3 ∨ (K1 = 2 ∧ K2 = 2 ∧ n1 ≠ n2) then put f P Q false (Q - 1) (P / 2)
  else if K1 = 2 then put f P Q n1 (Q - 1) 0
  else if K2 = 2 then put f P Q n2 (Q - 1) 0
  else if n1 = n2 then rd f P Q b n1 (M1 + M2)
  else if M1 = M2 then put f P Q false 0 0
  else if M1 < M2 then rd f P Q b n2 (M2 - M1)
  else rd f P Q b n1 (M1 - M2)
/-- What parts of a float there are. -/
def Prt (f P Q b K X S : Int) : Prop :=
  (K = 3 ∧ X = 0 ∧ S = 0) ∨ (K = 2 ∧ X = 0 ∧ S = 0) ∨ (K = 0 ∧ X = 0 ∧ S = 0) ∨
  (K = 1 ∧ 1 - b - f ≤ X ∧ X ≤ Q - 2 - b - f ∧ 0 < S ∧ S < 2 * P ∧ (1 - b - f < X → P ≤ S))

theorem opened_prt {w e f P Q b x y X S K : Int} {n N : Bool} (k : Kd w e f P Q b) (ho : Opened f P Q b n x y N K X S) (x0 : 0 ≤ x) (x1 : x < Q) (y0 : 0 ≤ y) (y1 : y < P) : Prt f P Q b K X S := by
  have hf := k.f0
  unfold Prt
  rcases ho with ⟨h, _⟩ | ⟨_, _, _, _, rfl, rfl, rfl⟩ | ⟨_, _, _, _, rfl, rfl, rfl⟩ | ⟨_, h1, h2, _, rfl, rfl, rfl⟩ | ⟨_, h1, h2, h3, _, rfl, rfl, rfl⟩ | ⟨_, h1, h2, h3, _, rfl, rfl, rfl⟩
  · exact absurd h hf
  · exact Or.inl ⟨rfl, rfl, rfl⟩
  · exact Or.inr (Or.inl ⟨rfl, rfl, rfl⟩)
  · refine Or.inr (Or.inr (Or.inr ⟨rfl, by omega, by omega, by omega, by omega, fun _ => by omega⟩))
  · have : 2 ≤ Q ∧ 1 ≤ P := by rcases k with k | k <;> omega
    refine Or.inr (Or.inr (Or.inr ⟨rfl, by omega, ?_, by omega, by omega, fun h => by omega⟩))
    rcases k with k | k <;> omega
  · exact Or.inr (Or.inr (Or.inl ⟨rfl, rfl, rfl⟩))

theorem Prt.in {w e f P Q b K X S : Int} (k : Kd w e f P Q b) (h : Prt f P Q b K X S) : -1200 ≤ X ∧ X ≤ 1100 ∧ 0 ≤ S ∧ S < 2 * P ∧ S < 9007199254740992 := by
  unfold Prt at h
  rcases k with ⟨-, -, rfl, rfl, rfl, rfl⟩ | ⟨-, -, rfl, rfl, rfl, rfl⟩ <;> omega
theorem Prt.mag0 {f P Q b K X S : Int} (h : Prt f P Q b K X S) (hK : K ≠ 1) : mag X S = 0 := by
  have : S = 0 := by
    unfold Prt at h
    omega
  subst this
  exact Nat.zero_mul _
theorem add_comm {f P Q b : Int} (n1 n2 : Bool) (K1 K2 : Int) (M1 M2 : Nat) : addP f P Q b n1 K1 M1 n2 K2 M2 = addP f P Q b n2 K2 M2 n1 K1 M1 := by
  unfold addP
  by_cases h3 : K1 = 3 ∨ K2 = 3 ∨ (K1 = 2 ∧ K2 = 2 ∧ n1 ≠ n2)
  · rw [if_pos h3, if_pos (by
      rcases h3 with h | h | ⟨h1, h2, h⟩
      · exact Or.inr (Or.inl h)
      · exact Or.inl h
      · exact Or.inr (Or.inr ⟨h2, h1, fun he => h he.symm⟩))]
  · have h3' : ¬ (K2 = 3 ∨ K1 = 3 ∨ (K2 = 2 ∧ K1 = 2 ∧ n2 ≠ n1)) := fun h => h3 (by
      rcases h with h | h | ⟨h1, h2, h⟩
      · exact Or.inr (Or.inl h)
      · exact Or.inl h
      · exact Or.inr (Or.inr ⟨h2, h1, fun he => h he.symm⟩))
    rw [if_neg h3, if_neg h3']
    by_cases ka : K1 = 2
    · rw [if_pos ka]
      by_cases kb : K2 = 2
      · rw [if_pos kb]
        have : n1 = n2 := Decidable.byContradiction fun hn => h3 (Or.inr (Or.inr ⟨ka, kb, hn⟩))
        rw [this]
      · rw [if_neg kb, if_pos ka]
    · rw [if_neg ka]
      by_cases kb : K2 = 2
      · rw [if_pos kb, if_pos kb]
      · rw [if_neg kb, if_neg kb, if_neg ka]
        by_cases hn : n1 = n2
        · subst hn
          rw [if_pos rfl, if_pos rfl, Nat.add_comm]
        · rw [if_neg hn, if_neg (fun h : n2 = n1 => hn h.symm)]
          by_cases hM : M1 = M2
          · rw [if_pos hM, if_pos hM.symm]
          · rw [if_neg hM, if_neg (fun h : M2 = M1 => hM h.symm)]
            by_cases hl : M1 < M2
            · rw [if_pos hl, if_neg (by omega)]
            · rw [if_neg hl, if_pos (by omega)]

theorem pack_at {w e f P Q b E : Int} (k : Kd w e f P Q b) (n : Bool) (v : Nat) (hv : W2 v) (h0 : -1200 ≤ E) (h1 : E ≤ 1100) (W : World) :
    Calls Tryd.prog 42 #[.int .i64 w, .bool n, .agg #[.int .u64 (hi v), .int .u64 (lo v)], .int .i64 E, .bool false] W fun r W' => r = .returned (.int .u64 (rd f P Q b n (v * 2 ^ (E + 5000).toNat))) ∧ Below W.heap.size W W' := by
  have := pack_known v n false E k hv W
  rw [cap_id (by omega) (by omega), num_plain _ _ (by omega)] at this
  exact this

end Go.Proofs.YtmbkpmcmhmldgaaDoor
namespace Go.Proofs.YtmbkpmcmhmldgaaDoor
open Go.RowKit
open Go.Proofs.YtmbkpmcmhmldgaaDoor.W

/-- A float's bits without the sign, as a number. -/
def oc (P Q x : Int) : Nat := (x / P % Q * P + x % P).toNat
/-- Its kind. -/
def oK (P Q x : Int) : Int := if x / P % Q = Q - 1 then (if x % P = 0 then 2 else 3) else if x / P % Q = 0 ∧ x % P = 0 then 0 else 1
/-- Its sign. -/
def oN (P Q x : Int) : Bool := if x / P % Q = Q - 1 ∧ x % P ≠ 0 then false else sg P Q x
/-- Its number, 5000 bits up. -/
def oM (f P Q b x : Int) : Nat := if x / P % Q = Q - 1 then 0 else fval f.toNat (lowN f b) (oc P Q x)
/-- The difference of two floats. -/
def subB (f P Q b x y : Int) : Int := addP f P Q b (oN P Q x) (oK P Q x) (oM f P Q b x) (!oN P Q y) (oK P Q y) (oM f P Q b y)

theorem mag_zero (X : Int) : mag X 0 = 0 := by
  unfold mag
  rw [show (0 : Int).toNat = 0 from rfl, Nat.zero_mul]
theorem open_kd {w e f P Q b : Int} (k : Kd w e f P Q b) (x : Int) : ∃ X S, Opened f P Q b (sg P Q x) (x / P % Q) (x % P) (oN P Q x) (oK P Q x) X S ∧ Prt f P Q b (oK P Q x) X S ∧ mag X S = oM f P Q b x := by
  obtain ⟨p1, p2, q1, q2⟩ := k.pos
  obtain ⟨hP, f0, f1, l0, l1, b0, b1⟩ := k.pow
  obtain ⟨u, v⟩ := exp_in (x / P) (show 1 ≤ Q by omega)
  obtain ⟨u', v'⟩ := exp_in x (show 1 ≤ P by omega)
  have hf := k.f0
  unfold oM oN oK oc
  generalize x / P % Q = e at *
  generalize x % P = y at *
  generalize sg P Q x = n at *
  by_cases h1 : e = Q - 1
  · rw [if_pos h1, if_pos h1]
    by_cases h2 : y = 0
    · rw [if_pos h2, if_neg (by omega)]
      exact ⟨0, 0, Or.inr (Or.inr (Or.inl ⟨hf, h1, h2, rfl, rfl, rfl, rfl⟩)), Or.inr (Or.inl ⟨rfl, rfl, rfl⟩), mag_zero 0⟩
    · rw [if_neg h2, if_pos ⟨h1, h2⟩]
      exact ⟨0, 0, Or.inr (Or.inl ⟨hf, h1, h2, rfl, rfl, rfl, rfl⟩), Or.inl ⟨rfl, rfl, rfl⟩, mag_zero 0⟩
  · rw [if_neg h1, if_neg h1, if_neg (fun h => h1 h.1)]
    by_cases h2 : e = 0
    · by_cases h3 : y = 0
      · rw [if_pos ⟨h2, h3⟩]
        refine ⟨0, 0, Or.inr (Or.inr (Or.inr (Or.inr (Or.inr ⟨hf, h1, h2, h3, rfl, rfl, rfl, rfl⟩)))), Or.inr (Or.inr (Or.inl ⟨rfl, rfl, rfl⟩)), ?_⟩
        rw [h2, h3, Int.zero_mul, mag_zero, show ((0 : Int) + 0).toNat = 0 from rfl, fval_zero]
      · rw [if_neg (fun h => h3 h.2)]
        have ho : Opened f P Q b n e y n 1 (1 - b - f) y := Or.inr (Or.inr (Or.inr (Or.inr (Or.inl ⟨hf, h1, h2, h3, rfl, rfl, rfl, rfl⟩))))
        refine ⟨1 - b - f, y, ho, opened_prt k ho u v u' v', ?_⟩
        have hv := fval_norm f.toNat (lowN f b) y.toNat (lowN f b) (by rw [Nat.pow_succ]; omega) (Nat.le_refl _) (fun h => absurd h (Nat.lt_irrefl _))
        rw [Nat.sub_self, Nat.zero_mul, Nat.zero_add] at hv
        rw [h2, Int.zero_mul, Int.zero_add, hv]
        unfold mag
        rw [show (1 - b - f + 5000).toNat = lowN f b by unfold lowN; omega]
    · rw [if_neg (fun h => h2 h.1)]
      have ho : Opened f P Q b n e y n 1 (e - b - f) (P + y) := Or.inr (Or.inr (Or.inr (Or.inl ⟨hf, h1, h2, rfl, rfl, rfl, rfl⟩)))
      refine ⟨e - b - f, P + y, ho, opened_prt k ho u v u' v', ?_⟩
      have hk : (e - b - f + 5000).toNat = lowN f b + (e.toNat - 1) := by unfold lowN; omega
      have hv := fval_norm f.toNat (lowN f b) (P + y).toNat (lowN f b + (e.toNat - 1)) (by rw [Nat.pow_succ]; omega) (by omega) (fun _ => by omega)
      unfold mag
      rw [hk, ← hv]
      congr 1
      rw [show lowN f b + (e.toNat - 1) - lowN f b = e.toNat - 1 by omega]
      have e1 : (e * P + y).toNat = e.toNat * 2 ^ f.toNat + y.toNat := by
        have : ((e.toNat * 2 ^ f.toNat : Nat) : Int) = e * P := by
          rw [Int.natCast_mul, ← hP, Int.toNat_of_nonneg u]
        omega
      have e2 : (P + y).toNat = 2 ^ f.toNat + y.toNat := by omega
      rw [e1, e2, ← Nat.add_assoc]
      congr 1
      obtain ⟨j, hj⟩ : ∃ j, e.toNat = j + 1 := ⟨e.toNat - 1, by omega⟩
      rw [hj, Nat.add_sub_cancel, Nat.add_mul, Nat.one_mul]

theorem open_none {w e f P Q b : Int} (k : Wd w e f P Q b) (hf : f = 0) (x : Int) (W : World) (x0 : 0 ≤ x) (x1 : x < 18446744073709551616) :
    Calls Tryd.prog 17 #[.int .i64 w, .int .u64 x] W fun r W' => r = .returned (.agg #[.bool false, .int .i64 0, .int .i64 0, .int .u64 0]) ∧ Below W.heap.size W W' :=
  open_any x k W x0 x1 (Or.inl ⟨hf, rfl, rfl, rfl, rfl⟩)
end Go.Proofs.YtmbkpmcmhmldgaaDoor
namespace Go.Proofs.YtmbkpmcmhmldgaaDoor
open Go.RowKit
open Go.Proofs.YtmbkpmcmhmldgaaDoor.W

theorem put_in {w e f P Q b x y : Int} {n : Bool} (h : Kd w e f P Q b) (x0 : 0 ≤ x) (x1 : x < Q) (y0 : 0 ≤ y) (y1 : y < P) :
    0 ≤ put f P Q n x y ∧ put f P Q n x y < 18446744073709551616 ∧ sg P Q (put f P Q n x y) = n ∧ put f P Q n x y / P % Q = x ∧ put f P Q n x y % P = y := by
  unfold sg
  cases n
  · rw [put_no h.f0]
    rcases h with ⟨-, -, -, rfl, rfl, -⟩ | ⟨-, -, -, rfl, rfl, -⟩
    · refine ⟨by omega, by omega, ?_, by omega, by omega⟩
      show ((x * 8388608 + y) / 2147483648 % 2 == 1) = false
      exact eq_f (by omega)
    · refine ⟨by omega, by omega, ?_, by omega, by omega⟩
      show ((x * 4503599627370496 + y) / 9223372036854775808 % 2 == 1) = false
      exact eq_f (by omega)
  · rw [put_yes h.f0]
    rcases h with ⟨-, -, -, rfl, rfl, -⟩ | ⟨-, -, -, rfl, rfl, -⟩
    · refine ⟨by omega, by omega, ?_, by omega, by omega⟩
      show ((x * 8388608 + y + 2147483648) / 2147483648 % 2 == 1) = true
      exact eq_t (by omega)
    · refine ⟨by omega, by omega, ?_, by omega, by omega⟩
      show ((x * 4503599627370496 + y + 9223372036854775808) / 9223372036854775808 % 2 == 1) = true
      exact eq_t (by omega)

/-- The infinite one's code. -/
def top (P Q : Int) : Int := (Q - 1) * P
theorem top_pos {w e f P Q b : Int} (k : Kd w e f P Q b) : 0 < top P Q := by
  unfold top
  rcases k with ⟨-, -, -, rfl, rfl, -⟩ | ⟨-, -, -, rfl, rfl, -⟩ <;> omega
/-- The canonical NaN. -/
def nanB (f P Q : Int) : Int := put f P Q false (Q - 1) (P / 2)

theorem code_parts {w e f P Q b c : Int} (k : Kd w e f P Q b) (c0 : 0 ≤ c) (c1 : c ≤ top P Q) : 0 ≤ c / P ∧ c / P < Q ∧ 0 ≤ c % P ∧ c % P < P ∧ c / P * P + c % P = c ∧ (c / P = Q - 1 ↔ c = top P Q) ∧ (c = top P Q → c % P = 0) := by
  unfold top at *
  rcases k with ⟨-, -, -, rfl, rfl, -⟩ | ⟨-, -, -, rfl, rfl, -⟩ <;> (refine ⟨?_, ?_, ?_, ?_, ?_, ?_, ?_⟩ <;> omega)

/-- A float's own code, sign and kind. -/
theorem fl_facts {w e f P Q b c : Int} (k : Kd w e f P Q b) (n : Bool) (c0 : 0 ≤ c) (c1 : c ≤ top P Q) :
    0 ≤ fl f P Q n c ∧ fl f P Q n c < 18446744073709551616 ∧ ((oc P Q (fl f P Q n c) : Nat) : Int) = c ∧ oN P Q (fl f P Q n c) = n ∧ cutN f P Q (fl f P Q n c) = fl f P Q n c ∧ (fl f P Q n c / P % Q == Q - 1 && fl f P Q n c % P != 0) = false := by
  obtain ⟨a0, a1, d0, d1, he, ht, hz⟩ := code_parts k c0 c1
  have hf : fl f P Q n c = put f P Q n (c / P) (c % P) := rfl
  obtain ⟨r0, r1, r2, r3, r4⟩ := put_in (n := n) k a0 a1 d0 d1
  rw [← hf] at r0 r1 r2 r3 r4
  refine ⟨r0, r1, ?_, ?_, ?_, ?_⟩
  · unfold oc
    rw [r3, r4, he, Int.toNat_of_nonneg c0]
  · unfold oN
    rw [r2, r3, r4, if_neg (fun h => h.2 (hz (ht.1 h.1)))]
  · rw [← cut_put k.wd.sz, r2, r3, r4]
    exact hf.symm
  · rw [r3, r4]
    by_cases h : c = top P Q
    · simp [hz h]
    · rw [eq_f (fun h' => h (ht.1 h'))]
      rfl
/-- A float by its code. -/
theorem kind_oc {w e f P Q b : Int} (k : Kd w e f P Q b) (x : Int) :
    (oK P Q x = 3 ∧ top P Q < oc P Q x ∧ oN P Q x = false) ∨ (oK P Q x = 2 ∧ (oc P Q x : Int) = top P Q ∧ oM f P Q b x = 0) ∨
    (oK P Q x = 1 ∧ 0 < oc P Q x ∧ (oc P Q x : Int) < top P Q ∧ oM f P Q b x = fval f.toNat (lowN f b) (oc P Q x)) ∨ (oK P Q x = 0 ∧ oc P Q x = 0 ∧ oM f P Q b x = 0) := by
  obtain ⟨p1, p2, q1, q2⟩ := k.pos
  obtain ⟨u, v⟩ := exp_in (x / P) (show 1 ≤ Q by omega)
  obtain ⟨u', v'⟩ := exp_in x (show 1 ≤ P by omega)
  unfold oM oN oK
  have hc : ((oc P Q x : Nat) : Int) = x / P % Q * P + x % P := by
    unfold oc
    have := Int.mul_nonneg u (show 0 ≤ P by omega)
    omega
  have hz := fval_zero f.toNat (lowN f b)
  generalize oc P Q x = c at *
  generalize x / P % Q = e at *
  generalize x % P = y at *
  generalize sg P Q x = n at *
  by_cases h1 : e = Q - 1
  · rw [if_pos h1, if_pos h1]
    by_cases h2 : y = 0
    · rw [if_pos h2]
      refine Or.inr (Or.inl ⟨rfl, ?_, rfl⟩)
      rw [hc, h1, h2]
      unfold top
      omega
    · rw [if_neg h2, if_pos ⟨h1, h2⟩]
      refine Or.inl ⟨rfl, ?_, rfl⟩
      rw [hc, h1]
      unfold top
      omega
  · rw [if_neg h1, if_neg h1]
    by_cases h2 : e = 0 ∧ y = 0
    · rw [if_pos h2]
      have : c = 0 := by
        rw [h2.1, h2.2] at hc
        omega
      subst this
      exact Or.inr (Or.inr (Or.inr ⟨rfl, rfl, hz⟩))
    · rw [if_neg h2]
      refine Or.inr (Or.inr (Or.inl ⟨rfl, ?_, ?_, rfl⟩))
      · rcases k with ⟨-, -, -, rfl, rfl, -⟩ | ⟨-, -, -, rfl, rfl, -⟩ <;> omega
      · unfold top
        rcases k with ⟨-, -, -, rfl, rfl, -⟩ | ⟨-, -, -, rfl, rfl, -⟩ <;> omega
theorem oM_fin {w e f P Q b : Int} (k : Kd w e f P Q b) {x : Int} (h : oK P Q x ≠ 3 ∧ oK P Q x ≠ 2) : oM f P Q b x = fval f.toNat (lowN f b) (oc P Q x) ∧ (oc P Q x : Int) < top P Q := by
  have ht := top_pos k
  rcases kind_oc k x with ⟨h1, _⟩ | ⟨h1, _⟩ | ⟨_, _, h2, h3⟩ | ⟨_, h2, h3⟩
  · exact absurd h1 h.1
  · exact absurd h1 h.2
  · exact ⟨h3, h2⟩
  · rw [h2, h3, fval_zero]
    exact ⟨rfl, ht⟩
/-- A float less itself. -/
theorem sub_self {w e f P Q b : Int} (k : Kd w e f P Q b) {x : Int} : (oK P Q x = 2 → subB f P Q b x x = nanB f P Q) ∧ (oK P Q x ≠ 2 → oK P Q x ≠ 3 → subB f P Q b x x = 0) := by
  unfold subB addP
  refine ⟨fun h => ?_, fun h h3 => ?_⟩
  · rw [if_pos (Or.inr (Or.inr ⟨h, h, by cases oN P Q x <;> simp⟩))]
    rfl
  · rw [if_neg (by omega), if_neg h, if_neg h, if_neg (by cases oN P Q x <;> simp), if_pos rfl, put_no k.f0]
    omega
end Go.Proofs.YtmbkpmcmhmldgaaDoor
namespace Go.Proofs.YtmbkpmcmhmldgaaDoor
open Go.RowKit
open Go.Proofs.YtmbkpmcmhmldgaaDoor.W

/-- How far up a number lies. -/
def Z5 : Nat := 5000
theorem Z5_at : ((0 : Int) + 5000).toNat = Z5 := rfl
/-- A whole number's sign: H is half of what there is room for. -/
def ngs (H : Int) (s : Bool) (x : Int) : Bool := s && decide (H ≤ x % (2 * H))
/-- A whole number's amount. -/
def amt (H : Int) (s : Bool) (x : Int) : Int := if ngs H s x = true then 2 * H - x % (2 * H) else x % (2 * H)
/-- The float that is nearest to it. -/
def makC (f P Q b H : Int) (s : Bool) (x : Int) : Int := rd f P Q b (ngs H s x) ((amt H s x).toNat * 2 ^ Z5)
theorem ngs_f (H x : Int) : ngs H false x = false := rfl
theorem amt_f (H x : Int) : amt H false x = x % (2 * H) := by unfold amt; rw [ngs_f, if_neg (by decide)]
theorem ngs_t {H x : Int} (h : H ≤ x % (2 * H)) : ngs H true x = true := by unfold ngs; simpa using h
theorem ngs_p {H x : Int} (h : ¬ H ≤ x % (2 * H)) : ngs H true x = false := by unfold ngs; simpa using h
theorem amt_t {H x : Int} (h : H ≤ x % (2 * H)) : amt H true x = 2 * H - x % (2 * H) := by unfold amt; rw [ngs_t h, if_pos rfl]
theorem amt_p {H x : Int} (h : ¬ H ≤ x % (2 * H)) : amt H true x = x % (2 * H) := by unfold amt; rw [ngs_p h, if_neg (by decide)]
/-- What half of a width's room is. -/
theorem kd_half {w e f P Q b : Int} (k : Kd w e f P Q b) : (w = 32 ∧ P * Q = 2147483648) ∨ (w = 64 ∧ P * Q = 9223372036854775808) := by
  rcases k with ⟨rfl, -, -, rfl, rfl, -⟩ | ⟨rfl, -, -, rfl, rfl, -⟩
  · exact Or.inl ⟨rfl, rfl⟩
  · exact Or.inr ⟨rfl, rfl⟩
theorem amt_in {w e f P Q b : Int} (k : Kd w e f P Q b) (s : Bool) (x : Int) : 0 ≤ amt (P * Q) s x ∧ amt (P * Q) s x < 18446744073709551616 ∧ (ngs (P * Q) s x = true → amt (P * Q) s x ≠ 0) := by
  have hk := kd_half k
  generalize P * Q = H at *
  have hm : 0 ≤ x % (2 * H) ∧ x % (2 * H) < 2 * H := ⟨Int.emod_nonneg _ (by omega), Int.emod_lt_of_pos _ (by omega)⟩
  cases s
  · rw [amt_f, ngs_f]
    exact ⟨hm.1, by omega, fun h => by cases h⟩
  · by_cases h : H ≤ x % (2 * H)
    · rw [amt_t h]
      exact ⟨by omega, by omega, fun _ => by omega⟩
    · rw [amt_p h, ngs_p h]
      exact ⟨hm.1, by omega, fun h => by cases h⟩

theorem low_le {w e f P Q b : Int} (k : Kd w e f P Q b) : lowN f b ≤ Z5 := by
  rcases k with ⟨-, -, rfl, -, -, rfl⟩ | ⟨-, -, rfl, -, -, rfl⟩ <;> decide +kernel
theorem pow_same {a b c d : Nat} (h : a + b = c + d) : 2 ^ a * 2 ^ b = 2 ^ c * 2 ^ d := by rw [← Nat.pow_add, ← Nat.pow_add, h]
theorem fl_parts {w e f P Q b : Int} (k : Kd w e f P Q b) (n : Bool) {c : Nat} (hc : (c : Int) < top P Q) :
    0 ≤ fl f P Q n c ∧ fl f P Q n c < 18446744073709551616 ∧ oc P Q (fl f P Q n c) = c ∧ oN P Q (fl f P Q n c) = n ∧ oK P Q (fl f P Q n c) ≠ 3 ∧ oK P Q (fl f P Q n c) ≠ 2 ∧ oM f P Q b (fl f P Q n c) = fval f.toNat (lowN f b) c := by
  obtain ⟨h0, h1, h2, h3, h4, h5⟩ := fl_facts k n (c := (c : Int)) (by omega) (by omega)
  have hoc : oc P Q (fl f P Q n c) = c := by omega
  have hK : oK P Q (fl f P Q n c) ≠ 3 ∧ oK P Q (fl f P Q n c) ≠ 2 := by
    rcases kind_oc k (fl f P Q n c) with ⟨-, g, -⟩ | ⟨-, g, -⟩ | ⟨g, -, -, -⟩ | ⟨g, -, -⟩
    · exfalso; omega
    · exfalso; omega
    · omega
    · omega
  refine ⟨h0, h1, hoc, h3, hK.1, hK.2, ?_⟩
  rw [(oM_fin k hK).1, hoc]
/-- The float of any whole number of 64 bits isn't the infinite one. -/
theorem word_code {w e f P Q b : Int} (k : Kd w e f P Q b) (m : Nat) (hm : m < 18446744073709551616) : ((code f.toNat (lowN f b) (m * 2 ^ Z5) : Nat) : Int) < top P Q := by
  have hf : f.toNat ≤ 52 := by rcases k with ⟨-, -, rfl, -⟩ | ⟨-, -, rfl, -⟩ <;> decide
  have hL := low_le k
  have h2 : 2 ^ (f.toNat + 1) = 2 ^ f.toNat * 2 := Nat.pow_succ _ _
  have hp := Nat.two_pow_pos f.toNat
  have hc := code_exact f.toNat (lowN f b) (2 ^ f.toNat) (Z5 + (64 - f.toNat)) (by omega) (by omega) (fun _ => Nat.le_refl _)
  rw [pow_same (show f.toNat + (Z5 + (64 - f.toNat)) = 64 + Z5 by omega)] at hc
  have hle := code_mono f.toNat (lowN f b) (Nat.mul_le_mul_right (2 ^ Z5) (show m ≤ 2 ^ 64 by omega))
  rw [hc] at hle
  have ht : (((Z5 + (64 - f.toNat) - lowN f b) * 2 ^ f.toNat + 2 ^ f.toNat : Nat) : Int) < top P Q := by
    clear hle hc hm hp h2 hL hf
    rcases k with ⟨-, -, rfl, rfl, rfl, rfl⟩ | ⟨-, -, rfl, rfl, rfl, rfl⟩ <;> decide +kernel
  omega
theorem word_rd {w e f P Q b : Int} (k : Kd w e f P Q b) (n : Bool) (m : Nat) (hm : m < 18446744073709551616) : rd f P Q b n (m * 2 ^ Z5) = fl f P Q n (code f.toNat (lowN f b) (m * 2 ^ Z5) : Nat) := by
  have h := word_code k m hm
  unfold rd lid
  unfold top at h
  rw [if_neg (by omega)]
end Go.Proofs.YtmbkpmcmhmldgaaDoor
namespace Go.Proofs.YtmbkpmcmhmldgaaDoor
open Go.RowKit
open Go.Proofs.YtmbkpmcmhmldgaaDoor.W

/-- A number's whole part. -/
def wq (M : Nat) : Nat := M / 2 ^ Z5
theorem low_dn (k : Nat) (hk : k ≤ 5000) {X S : Int} (hX : X = -(k : Int)) : wq (mag X S) = S.toNat / 2 ^ k ∧ True := by
  have h1 : mag X S = S.toNat * 2 ^ (Z5 - k) := by
    unfold mag
    rw [show (X + 5000).toNat = Z5 - k by unfold Z5; omega]
  have h2 : 2 ^ Z5 = 2 ^ k * 2 ^ (Z5 - k) := by rw [← Nat.pow_add, show k + (Z5 - k) = Z5 by unfold Z5; omega]
  refine ⟨?_, trivial⟩
  unfold wq
  rw [h1, h2, Nat.mul_div_mul_right _ _ (Nat.two_pow_pos (Z5 - k))]
theorem low_up {X S : Int} (hX : 0 ≤ X) : wq (mag X S) = S.toNat * 2 ^ X.toNat ∧ True := by
  have hm : mag X S = S.toNat * 2 ^ X.toNat * 2 ^ Z5 := by
    unfold mag
    rw [show (X + 5000).toNat = X.toNat + Z5 by unfold Z5; omega, Nat.pow_add, Nat.mul_assoc]
  exact ⟨by unfold wq; rw [hm, Nat.mul_div_cancel _ (Nat.two_pow_pos Z5)], trivial⟩
theorem wq_zero : wq 0 = 0 := by unfold wq; exact Nat.zero_div _
/-- How far a number may go below nought, above it: H is half of what there is room for. -/
def lowE (H : Int) (s : Bool) : Int := if s then H else 0
def highE (H : Int) (s : Bool) : Int := if s then H - 1 else 2 * H - 1
/-- The end on the side of a sign. -/
def endE (H : Int) (s n : Bool) : Int := if n then lowE H s else highE H s
/-- The number of that sign and amount. -/
def sgd (H : Int) (n : Bool) (m : Int) : Int := if n then -m % (2 * H) else m
/-- The trap, and the number, of a float of that sign and kind, whose whole part is z. -/
def chT (H : Int) (s n : Bool) (K : Int) (z : Nat) : Int := if K = 3 then 4 else if K = 2 then 3 else if (z : Int) ≤ endE H s n then 0 else 3
def chV (H : Int) (s n : Bool) (K : Int) (z : Nat) : Int := if K = 3 then 0 else if K = 2 then endE H s n else if (z : Int) ≤ endE H s n then sgd H n z else endE H s n

theorem chT_le {H : Int} {s n : Bool} {z : Nat} (h : (z : Int) ≤ endE H s n) : chT H s n 1 z = 0 := by unfold chT; rw [if_neg (by decide), if_neg (by decide), if_pos h]
theorem chV_le {H : Int} {s n : Bool} {z : Nat} (h : (z : Int) ≤ endE H s n) : chV H s n 1 z = sgd H n z := by unfold chV; rw [if_neg (by decide), if_neg (by decide), if_pos h]
theorem chT_gt {H : Int} {s n : Bool} {z : Nat} (h : ¬ (z : Int) ≤ endE H s n) : chT H s n 1 z = 3 := by unfold chT; rw [if_neg (by decide), if_neg (by decide), if_neg h]
theorem chV_gt {H : Int} {s n : Bool} {z : Nat} (h : ¬ (z : Int) ≤ endE H s n) : chV H s n 1 z = endE H s n := by unfold chV; rw [if_neg (by decide), if_neg (by decide), if_neg h]
theorem ends_in {w e f P Q b : Int} (k : Kd w e f P Q b) (s n : Bool) : 0 ≤ endE (P * Q) s n ∧ endE (P * Q) s n < 18446744073709551616 := by
  have h := kd_half k
  unfold endE lowE highE
  cases n <;> cases s <;> simp only [if_true, if_false, Bool.false_eq_true] <;> omega

/-- What is left of a great amount. -/
theorem am_hi {X S : Int} (h : 64 < X) (s0 : 0 < S) (s1 : S < 9007199254740992) : W2 (shrN (shlN S.toNat 64) (-X)) ∧ ∀ E : Nat, E < 18446744073709551616 → ¬ shrN (shlN S.toNat 64) (-X) ≤ E ∧ ¬ wq (mag X S) ≤ E := by
  have e1 : shlN S.toNat 64 = S.toNat * 18446744073709551616 := by
    unfold shlN
    rw [show (2 : Nat) ^ (64 : Int).toNat = 18446744073709551616 by decide, Nat.mod_eq_of_lt (by omega)]
  have e2 : shrN (shlN S.toNat 64) (-X) = S.toNat * 18446744073709551616 := by
    unfold shrN
    rw [e1, show (-X).toNat = 0 by omega, Nat.pow_zero, Nat.div_one]
  have e3 := (low_up (S := S) (show 0 ≤ X by omega)).1
  obtain ⟨j, hj⟩ : ∃ j, X.toNat = j + 64 := ⟨X.toNat - 64, by omega⟩
  rw [hj, Nat.pow_add, ← Nat.mul_assoc] at e3
  have hp := Nat.le_mul_of_pos_right S.toNat (Nat.two_pow_pos j)
  rw [e2, e3]
  generalize S.toNat * 2 ^ j = y at *
  have hS : 1 ≤ S.toNat := by omega
  exact ⟨by unfold W2; omega, fun E hE => ⟨by omega, by omega⟩⟩
theorem am_lo {X S : Int} (h : ¬ 64 < X) (x0 : -1200 ≤ X) (s0 : 0 ≤ S) (s1 : S < 9007199254740992) : shrN (shlN S.toNat X) (-X) = wq (mag X S) := by
  by_cases hX : 0 ≤ X
  · rw [(low_up (S := S) hX).1]
    have hp : 2 ^ X.toNat ≤ 2 ^ 64 := Nat.pow_le_pow_right (by omega) (by omega)
    have hm := Nat.mul_le_mul (show S.toNat ≤ 9007199254740992 by omega) hp
    unfold shrN shlN
    rw [show (-X).toNat = 0 by omega, Nat.pow_zero, Nat.div_one, Nat.mod_eq_of_lt (by omega)]
  · rw [(low_dn (-X).toNat (by omega) (X := X) (S := S) (by omega)).1]
    unfold shrN shlN
    rw [show X.toNat = 0 by omega, Nat.pow_zero, Nat.mul_one, Nat.mod_eq_of_lt (show S.toNat < 340282366920938463463374607431768211456 by omega)]
theorem neg_id {X : Int} (h0 : -1200 ≤ X) (h1 : X ≤ 1100) : IntKind.i64.wrap (-X) = -X := i64_id (by omega) (by omega)
theorem amount_any {w e f P Q b X S : Int} (k : Kd w e f P Q b) (n : Bool) (h : Prt f P Q b 1 X S) :
    ∃ a : Nat, W2 a ∧ Ct 19 #[.agg #[.bool n, .int .i64 1, .int .i64 X, .int .u64 S]] (.agg #[.int .u64 (hi a), .int .u64 (lo a)]) ∧ ∀ E : Nat, E < 18446744073709551616 → (a ≤ E ∧ a = wq (mag X S) ∨ ¬ a ≤ E ∧ ¬ wq (mag X S) ≤ E) := by
  obtain ⟨x0, x1, s0, -, s2⟩ := h.in k
  have sp : 0 < S := by unfold Prt at h; omega
  have HO := hide (fun W => of_n S W s0 (by omega))
  have hv := small_w2 s0 (show S < 18446744073709551616 by omega)
  by_cases g : 64 < X
  · obtain ⟨h1, h2⟩ := am_hi g sp s2
    refine ⟨_, h1, hide (fun W => amount_hi W HO g (hide (fun W => left_n S.toNat 64 W hv)) (neg_id x0 x1) (hide (fun W => right_n _ (-X) W (shlN_w _ _)))), fun E hE => Or.inr (h2 E hE)⟩
  · have h1 := am_lo g x0 s0 s2
    refine ⟨_, shrN_w (-X) (shlN_w S.toNat X), hide (fun W => amount_lo W HO g (hide (fun W => left_n S.toNat X W hv)) (neg_id x0 x1) (hide (fun W => right_n _ (-X) W (shlN_w _ _)))), fun E hE => ?_⟩
    rw [h1]
    by_cases q : wq (mag X S) ≤ E
    · exact Or.inl ⟨q, rfl⟩
    · exact Or.inr ⟨q, q⟩
theorem kn_any {w e f P Q b : Int} (h : Wd w e f P Q b) : Ct 16 #[.int .i64 w] (.bool (f != 0)) := by
  have hk := fun W => kn_l W (hide (fun W => fields_any h W))
  rw [show (e != 0) = (f != 0) by rcases h with ⟨-, rfl, rfl, -⟩ | ⟨-, rfl, rfl, -⟩ | ⟨-, rfl, rfl, -⟩ <;> decide] at hk
  exact hide hk
theorem cut_kd {w e f P Q b x : Int} (k : Kd w e f P Q b) : cutN f P Q x = x % (2 * (P * Q)) := by unfold cutN; rw [if_neg k.f0]
theorem ends_any {w e f P Q b : Int} (k : Kd w e f P Q b) (s : Bool) : Ct 18 #[.int .i64 w, .bool s] (.tuple #[.int .u64 (lowE (P * Q) s), .int .u64 (highE (P * Q) s)]) := by
  have HC := hide (fun W => cut_any 18446744073709551615 k.wd W (by omega) (by omega))
  rw [cut_kd k] at HC
  have h := kd_half k
  have hm : 18446744073709551615 % (2 * (P * Q)) = 2 * (P * Q) - 1 := by
    rcases h with ⟨-, h⟩ | ⟨-, h⟩ <;> rw [h] <;> decide
  rw [hm] at HC
  generalize P * Q = H at *
  cases s
  · exact hide (fun W => ends_f W HC)
  · exact hide (fun W => ends_t W HC (show (2 * H - 1) / 2 = H - 1 by omega) (by show IntKind.u64.wrap (2 * H - 1 - (H - 1)) = H; rw [show 2 * H - 1 - (H - 1) = H by omega, IntKind.wrap_u64]; exact Int.emod_eq_of_lt (by omega) (by omega)))
theorem neg_mod {H x : Int} (h : H = 2147483648 ∨ H = 9223372036854775808) : IntKind.u64.wrap (-x) % (2 * H) = -x % (2 * H) := by
  rw [IntKind.wrap_u64]
  rcases h with rfl | rfl <;> omega
theorem wrap_in (x : Int) : 0 ≤ IntKind.u64.wrap x ∧ IntKind.u64.wrap x < 18446744073709551616 := by
  rw [IntKind.wrap_u64]
  omega
theorem with_any {w e f P Q b x : Int} (k : Kd w e f P Q b) (n : Bool) : Ct 22 #[.int .i64 w, .bool n, .int .u64 x] (.int .u64 (sgd (P * Q) n x)) := by
  have h : P * Q = 2147483648 ∨ P * Q = 9223372036854775808 := by have := kd_half k; omega
  cases n
  · exact hide (fun W => with_f W)
  · obtain ⟨h0, h1⟩ := wrap_in (-x)
    have HC := hide (fun W => cut_any (IntKind.u64.wrap (-x)) k.wd W h0 h1)
    rw [cut_kd k, neg_mod h] at HC
    exact hide (fun W => with_t W rfl HC)
/-- The answer of chopped, by a float's parts. -/
theorem chopped_parts {w k e' f' P' Q' b' e f P Q b x X S K : Int} {n : Bool} (kw : Kd w e f P Q b) (kk : Kd k e' f' P' Q' b') (s : Bool) (h : Prt f P Q b K X S) (HO : Ct 17 #[.int .i64 w, .int .u64 x] (.agg #[.bool n, .int .i64 K, .int .i64 X, .int .u64 S])) :
    Ct 10 #[.int .i64 w, .int .i64 k, .int .u64 x, .bool s] (.tuple #[.int .u64 (chV (P' * Q') s n K (wq (mag X S))), .int .i64 (chT (P' * Q') s n K (wq (mag X S)))]) := by
  have HK := kn_any kk.wd
  rw [ne_t kk.f0] at HK
  have HE := ends_any kk s
  obtain ⟨e0, e1⟩ := ends_in kk s n
  have hK : K = 0 ∨ K = 1 ∨ K = 2 ∨ K = 3 := by unfold Prt at h; omega
  rcases hK with rfl | rfl | rfl | rfl
  · rw [h.mag0 (by decide), wq_zero]
    have hT : chT (P' * Q') s n 0 0 = 0 := by unfold chT; rw [if_neg (by decide), if_neg (by decide), if_pos (by omega)]
    have hV : chV (P' * Q') s n 0 0 = 0 := by
      unfold chV
      rw [if_neg (by decide), if_neg (by decide), if_pos (by omega)]
      unfold sgd
      cases n <;> simp
    rw [hT, hV]
    cases n
    · exact hide (fun W => chopped_zero_f W HK HO HE)
    · exact hide (fun W => chopped_zero_t W HK HO HE)
  · obtain ⟨a, w2, HM, ha⟩ := amount_any kw n h
    obtain ⟨E, hE⟩ := Int.eq_ofNat_of_zero_le e0
    have hv := ha E (by omega)
    have HF := hide (fun W => of_n (endE (P' * Q') s n) W e0 e1)
    have HC := hide (fun W => cmp_n a E W)
    have HS := with_any (x := lo a) kk n
    rw [hE, Int.toNat_natCast] at HF
    rcases hv with ⟨g, h1⟩ | ⟨g, h1⟩
    · rw [← h1, chT_le (by omega), chV_le (by omega)]
      have hc : cmpN a E ≤ 0 := by unfold cmpN; split <;> (try split) <;> omega
      have hl : lo a = (a : Int) := by unfold lo; omega
      rw [hl] at HS
      rw [hl] at HM HC
      cases n
      · rw [show endE (P' * Q') s false = highE (P' * Q') s from rfl] at hE
        rw [← hE] at HF
        exact hide (fun W => chopped_le_f W HK HO HE HM HF HC hc HS)
      · rw [show endE (P' * Q') s true = lowE (P' * Q') s from rfl] at hE
        rw [← hE] at HF
        exact hide (fun W => chopped_le_t W HK HO HE HM HF HC hc HS)
    · rw [chT_gt (by omega), chV_gt (by omega)]
      have hc : ¬ cmpN a E ≤ 0 := by unfold cmpN; split <;> (try split) <;> omega
      cases n
      · rw [show endE (P' * Q') s false = highE (P' * Q') s from rfl] at hE ⊢
        rw [← hE] at HF
        exact hide (fun W => chopped_gt_f W HK HO HE HM HF HC hc)
      · rw [show endE (P' * Q') s true = lowE (P' * Q') s from rfl] at hE ⊢
        rw [← hE] at HF
        exact hide (fun W => chopped_gt_t W HK HO HE HM HF HC hc)
  · have hT : chT (P' * Q') s n 2 (wq (mag X S)) = 3 := by unfold chT; rw [if_neg (by decide), if_pos rfl]
    have hV : chV (P' * Q') s n 2 (wq (mag X S)) = endE (P' * Q') s n := by unfold chV; rw [if_neg (by decide), if_pos rfl]
    rw [hT, hV]
    cases n
    · exact hide (fun W => chopped_inf_f W HK HO HE)
    · exact hide (fun W => chopped_inf_t W HK HO HE)
  · have hT : chT (P' * Q') s n 3 (wq (mag X S)) = 4 := by unfold chT; rw [if_pos rfl]
    have hV : chV (P' * Q') s n 3 (wq (mag X S)) = 0 := by unfold chV; rw [if_pos rfl]
    rw [hT, hV]
    cases n
    · exact hide (fun W => chopped_nan_f W HK HO HE)
    · exact hide (fun W => chopped_nan_t W HK HO HE)
/-- The trap and the number of a float's bits. -/
def trN (f P Q b H : Int) (s : Bool) (x : Int) : Int := chT H s (oN P Q x) (oK P Q x) (wq (oM f P Q b x))
def vaN (f P Q b H : Int) (s : Bool) (x : Int) : Int := chV H s (oN P Q x) (oK P Q x) (wq (oM f P Q b x))
theorem chopped_any {w e f P Q b k e' f' P' Q' b' x : Int} (kw : Kd w e f P Q b) (kk : Kd k e' f' P' Q' b') (s : Bool) (x0 : 0 ≤ x) (x1 : x < 18446744073709551616) :
    Ct 10 #[.int .i64 w, .int .i64 k, .int .u64 x, .bool s] (.tuple #[.int .u64 (vaN f P Q b (P' * Q') s x), .int .i64 (trN f P Q b (P' * Q') s x)]) := by
  obtain ⟨X, S, ho, hp, hm⟩ := open_kd kw x
  have := chopped_parts kw kk s hp (hide (fun W => open_any x kw.wd W x0 x1 ho))
  rw [hm] at this
  exact this
theorem chopped_none {w e f P Q b k e' f' P' Q' b' x : Int} (kw : Wd w e f P Q b) (kk : Wd k e' f' P' Q' b') (h : f = 0 ∨ f' = 0) (s : Bool) (x0 : 0 ≤ x) (x1 : x < 18446744073709551616) : Ct 10 #[.int .i64 w, .int .i64 k, .int .u64 x, .bool s] (.tuple #[.int .u64 0, .int .i64 0]) := by
  have HK := kn_any kk
  by_cases hf : f' = 0
  · rw [ne_f hf] at HK
    exact hide (fun W => chopped_no W HK)
  · rw [ne_t hf] at HK
    exact hide (fun W => chopped_zero_f W HK (hide (fun W => open_none kw (h.resolve_right hf) x W x0 x1)) (ends_any (kk.known hf) s))
/-- What Trap tells. -/
def tvN (f P Q b H : Int) (s : Bool) (x : Int) : Int := if trN f P Q b H s x = 0 then vaN f P Q b H s x else 0
theorem trap_any {w e f P Q b k e' f' P' Q' b' x : Int} (kw : Kd w e f P Q b) (kk : Kd k e' f' P' Q' b') (s : Bool) (x0 : 0 ≤ x) (x1 : x < 18446744073709551616) :
    Ct 5 #[.int .i64 w, .int .i64 k, .int .u64 x, .bool s] (.tuple #[.int .u64 (tvN f P Q b (P' * Q') s x), .int .i64 (trN f P Q b (P' * Q') s x)]) := by
  have HC := chopped_any kw kk s x0 x1
  unfold tvN
  generalize trN f P Q b (P' * Q') s x = t at *
  by_cases h : t = 0
  · subst h
    rw [if_pos rfl]
    exact hide (fun W => trap_n W HC)
  · rw [if_neg h]
    exact hide (fun W => trap_y W HC (ne_t h))
theorem trap_none {w e f P Q b k e' f' P' Q' b' x : Int} (kw : Wd w e f P Q b) (kk : Wd k e' f' P' Q' b') (h : f = 0 ∨ f' = 0) (s : Bool) (x0 : 0 ≤ x) (x1 : x < 18446744073709551616) :
    Ct 5 #[.int .i64 w, .int .i64 k, .int .u64 x, .bool s] (.tuple #[.int .u64 0, .int .i64 0]) := hide (fun W => trap_n W (chopped_none kw kk h s x0 x1))
theorem sat_any {w e f P Q b k e' f' P' Q' b' x : Int} (kw : Kd w e f P Q b) (kk : Kd k e' f' P' Q' b') (s : Bool) (x0 : 0 ≤ x) (x1 : x < 18446744073709551616) :
    Ct 6 #[.int .i64 w, .int .i64 k, .int .u64 x, .bool s] (.int .u64 (vaN f P Q b (P' * Q') s x)) := hide (fun W => sat_l W (chopped_any kw kk s x0 x1))
theorem sat_none {w e f P Q b k e' f' P' Q' b' x : Int} (kw : Wd w e f P Q b) (kk : Wd k e' f' P' Q' b') (h : f = 0 ∨ f' = 0) (s : Bool) (x0 : 0 ≤ x) (x1 : x < 18446744073709551616) :
    Ct 6 #[.int .i64 w, .int .i64 k, .int .u64 x, .bool s] (.int .u64 0) := hide (fun W => sat_l W (chopped_none kw kk h s x0 x1))
end Go.Proofs.YtmbkpmcmhmldgaaDoor
namespace Go.Proofs.YtmbkpmcmhmldgaaDoor
open Go.RowKit
open Go.Proofs.YtmbkpmcmhmldgaaDoor.W

theorem i32_low (x : Int) : IntKind.i32.wrap x = if 2147483648 ≤ x % 4294967296 then x % 4294967296 - 4294967296 else x % 4294967296 := by
  simp only [IntKind.wrap, IntKind.bits, IntKind.signed]
  simp
theorem i64_low (x : Int) : IntKind.i64.wrap x = if 9223372036854775808 ≤ x % 18446744073709551616 then x % 18446744073709551616 - 18446744073709551616 else x % 18446744073709551616 := by
  simp only [IntKind.wrap, IntKind.bits, IntKind.signed]
  simp
theorem u32_low (x : Int) : IntKind.u32.wrap x = x % 4294967296 := by
  simp only [IntKind.wrap, IntKind.bits, IntKind.signed]
  simp
theorem number_any {k e f P Q b x : Int} (kd : Kd k e f P Q b) (s : Bool) (x0 : 0 ≤ x) (x1 : x < 18446744073709551616) : Ct 12 #[.int .i64 k, .int .u64 x, .bool s] (.tuple #[.bool (ngs (P * Q) s x), .int .u64 (amt (P * Q) s x)]) := by
  rcases kd_half kd with ⟨rfl, h⟩ | ⟨rfl, h⟩ <;> rw [h] <;> clear h kd
  · cases s
    · rw [ngs_f, amt_f]
      exact hide (fun W => number_32_f W (u32_low x) (hide (fun W => split_u32_p W (by omega) (by rw [IntKind.wrap_u64]; omega))))
    · by_cases g : 2147483648 ≤ x % (2 * 2147483648)
      · rw [ngs_t g, amt_t g]
        exact hide (fun W => number_32_t W (y := x % 4294967296 - 4294967296) (by rw [i32_low, if_pos (by omega)]) (hide (fun W => split_i32_n W (by omega) rfl (by rw [IntKind.wrap_u64, IntKind.wrap_u64]; omega))))
      · rw [ngs_p g, amt_p g]
        exact hide (fun W => number_32_t W (y := x % 4294967296) (by rw [i32_low, if_neg (by omega)]) (hide (fun W => split_i32_p W (by omega) (by rw [IntKind.wrap_u64]; omega))))
  · cases s
    · rw [ngs_f, amt_f, show x % (2 * 9223372036854775808) = x by omega]
      exact hide (fun W => number_64_f W (hide (fun W => split_u64_p W (by omega))))
    · by_cases g : 9223372036854775808 ≤ x % (2 * 9223372036854775808)
      · rw [ngs_t g, amt_t g]
        exact hide (fun W => number_64_t W (y := x % 18446744073709551616 - 18446744073709551616) (by rw [i64_low, if_pos (by omega)]) (hide (fun W => split_i64_n W (by omega) rfl (by rw [IntKind.wrap_u64, IntKind.wrap_u64]; omega))))
      · rw [ngs_p g, amt_p g]
        exact hide (fun W => number_64_t W (y := x % 18446744073709551616) (by rw [i64_low, if_neg (by omega)]) (hide (fun W => split_i64_p W (by omega) (by rw [IntKind.wrap_u64]; omega))))
theorem whole_any {w e f P Q b a : Int} (k : Kd w e f P Q b) (n : Bool) (a0 : 0 ≤ a) (a1 : a < 18446744073709551616) (hn : n = true → a ≠ 0) : Ct 30 #[.int .i64 w, .bool n, .int .u64 a] (.int .u64 (rd f P Q b n (a.toNat * 2 ^ Z5))) := by
  have hp := fun W => pack_at (E := 0) k n a.toNat (small_w2 a0 a1) (by omega) (by omega) W
  rw [Z5_at] at hp
  cases n
  · exact hide (fun W => whole_f W (hide (fun W => of_n a W a0 a1)) (hide hp))
  · exact hide (fun W => whole_t W (nb := true) (ne_t (hn rfl)) (hide (fun W => of_n a W a0 a1)) (hide hp))
theorem from_any {w e f P Q b k e' f' P' Q' b' x : Int} (kw : Kd w e f P Q b) (kk : Kd k e' f' P' Q' b') (s : Bool) (x0 : 0 ≤ x) (x1 : x < 18446744073709551616) : Ct 15 #[.int .i64 w, .int .i64 k, .int .u64 x, .bool s] (.int .u64 (makC f P Q b (P' * Q') s x)) := by
  obtain ⟨a0, a1, a2⟩ := amt_in kk s x
  exact hide (fun W => nearest_l W (number_any kk s x0 x1) (whole_any kw _ a0 a1 a2))
theorem fromU_any {w e f P Q b k e' f' P' Q' b' x : Int} (kw : Kd w e f P Q b) (kk : Kd k e' f' P' Q' b') (x0 : 0 ≤ x) (x1 : x < 18446744073709551616) : Ct 8 #[.int .i64 w, .int .i64 k, .int .u64 x] (.int .u64 (makC f P Q b (P' * Q') false x)) := hide (fun W => fromUint_l W (from_any kw kk false x0 x1))
theorem fromI_any {w e f P Q b k e' f' P' Q' b' x : Int} (kw : Kd w e f P Q b) (kk : Kd k e' f' P' Q' b') (x0 : 0 ≤ x) (x1 : x < 18446744073709551616) : Ct 9 #[.int .i64 w, .int .i64 k, .int .u64 x] (.int .u64 (makC f P Q b (P' * Q') true x)) := hide (fun W => fromInt_l W (from_any kw kk true x0 x1))

end Go.Proofs.YtmbkpmcmhmldgaaDoor
namespace Go.Proofs.YtmbkpmcmhmldgaaDoor
open Go.RowKit
open Go.Proofs.YtmbkpmcmhmldgaaDoor.W

/-- How many bits there are from the highest one to the lowest one. -/
def spanN (a : Nat) : Nat := Go.bitLen (a / 2 ^ Lib.ctz 64 a)
/-- Whether the float that is nearest to a whole number is that number. -/
def exB (f b : Int) (a : Nat) : Bool := decide (fval f.toNat (lowN f b) (code f.toNat (lowN f b) (a * 2 ^ Z5)) = a * 2 ^ Z5)

theorem odd_split {a : Nat} (h0 : a ≠ 0) (h1 : a < 18446744073709551616) : ∃ m, a = 2 ^ Lib.ctz 64 a * (2 * m + 1) := by
  obtain ⟨m, hm, -⟩ := Lib.ctzFrom_spec 64 a (by omega) h1
  refine ⟨m, ?_⟩
  unfold Lib.ctz
  rw [if_neg h0]
  exact hm
theorem span_iff {f L a : Nat} (hL : L ≤ Z5) (h0 : a ≠ 0) (h1 : a < 18446744073709551616) : spanN a ≤ f + 1 ↔ fval f L (code f L (a * 2 ^ Z5)) = a * 2 ^ Z5 := by
  obtain ⟨m, hm⟩ := odd_split h0 h1
  have ho : a / 2 ^ Lib.ctz 64 a = 2 * m + 1 := by
    have := Nat.mul_div_cancel_left (2 * m + 1) (Nat.two_pow_pos (Lib.ctz 64 a))
    rw [← hm] at this
    exact this
  unfold spanN
  rw [ho]
  generalize Lib.ctz 64 a = t at *
  have hv : a * 2 ^ Z5 = (2 * m + 1) * 2 ^ (Z5 + t) := by rw [hm, Nat.mul_comm (2 ^ t), Nat.mul_assoc, ← Nat.pow_add, Nat.add_comm t]
  rw [hv]
  constructor
  · intro h
    obtain ⟨c, hc⟩ := rep_k (f := f) (L := L) (s := 2 * m + 1) (k := Z5 + t) (bl_lt h) (by omega)
    rw [hc, fval_code]
  · intro h
    obtain ⟨s, k, -, hs, -, -, he⟩ := fval_ex f L (code f L ((2 * m + 1) * 2 ^ (Z5 + t)))
    rw [h] at he
    refine bitLen_of ?_
    generalize Z5 + t = j at *
    by_cases hk : k ≤ j
    · obtain ⟨i, rfl⟩ : ∃ i, j = k + i := ⟨j - k, by omega⟩
      rw [Nat.pow_add, Nat.mul_comm (2 ^ k), ← Nat.mul_assoc] at he
      have e2 := Nat.eq_of_mul_eq_mul_right (Nat.two_pow_pos k) he
      have := Nat.le_mul_of_pos_right (2 * m + 1) (Nat.two_pow_pos i)
      omega
    · obtain ⟨i, rfl⟩ : ∃ i, k = j + (i + 1) := ⟨k - j - 1, by omega⟩
      rw [Nat.pow_add, Nat.mul_comm (2 ^ j), ← Nat.mul_assoc] at he
      have e2 := Nat.eq_of_mul_eq_mul_right (Nat.two_pow_pos j) he
      rw [Nat.pow_succ, ← Nat.mul_assoc] at e2
      generalize s * 2 ^ i = r at e2
      exfalso
      omega
theorem span_zero : spanN 0 = 0 := by decide +kernel
theorem exB_zero (f b : Int) : exB f b 0 = true := by
  unfold exB
  rw [Nat.zero_mul, code_zero, fval_zero]
  rfl
theorem span_exB {w e f P Q b : Int} (k : Kd w e f P Q b) {a : Nat} (h1 : a < 18446744073709551616) : decide ((spanN a : Int) ≤ f + 1) = exB f b a := by
  have hf : 0 ≤ f := by rcases k with ⟨-, -, rfl, -⟩ | ⟨-, -, rfl, -⟩ <;> decide
  by_cases h0 : a = 0
  · subst h0
    rw [exB_zero, span_zero]
    exact dt (by omega)
  · have h2 : ((spanN a : Int) ≤ f + 1) ↔ (spanN a ≤ f.toNat + 1) := by omega
    exact decide_eq_decide.mpr (h2.trans (span_iff (f := f.toNat) (low_le k) h0 h1))

theorem below_same {P : Program} {fn : Nat} {args : Array Value} {W : World} {v : Value} (h : Calls P fn args W fun r W' => r = .returned v ∧ W' = W) : Calls P fn args W fun r W' => r = .returned v ∧ Below W.heap.size W W' :=
  h.mono (by rintro _ _ ⟨rfl, rfl⟩; exact ⟨rfl, Below.refl _ _⟩)
theorem span_any {x : Int} (x0 : 0 ≤ x) (x1 : x < 18446744073709551616) : Cm 14 #[.int .u64 x] (.int .i64 (spanN x.toNat : Nat)) := by
  obtain ⟨a, rfl⟩ := Int.eq_ofNat_of_zero_le x0
  rw [Int.toNat_natCast]
  by_cases h0 : a = 0
  · subst h0
    rw [span_zero]
    exact hide (fun W m => span_z W m (hide (fun W m => below_same (tz_zero W m))) (hide (fun W => below_same (len64_any 0 W (by omega) (by omega)))))
  · have hk := (Lib.lowest_bit 64 a h0 (by omega)).2
    have hd : (a : Int) / 2 ^ ((Lib.ctz 64 a : Nat) : Int).toNat = ((a / 2 ^ Lib.ctz 64 a : Nat) : Int) := by
      rw [Int.toNat_natCast, Int.natCast_ediv, Int.natCast_pow]
      rfl
    have hle := Nat.div_le_self a (2 ^ Lib.ctz 64 a)
    unfold spanN
    generalize a / 2 ^ Lib.ctz 64 a = y at *
    have hl := fun W => len64_any (y : Int) W (by omega) (by omega)
    rw [Int.toNat_natCast] at hl
    exact hide (fun W m => span_n W m (by omega) (by omega) (hide (fun W m => below_same (tz_any a (by omega) W m))) hd (hide (fun W => below_same (hl W))))
theorem cknown_any {w e f P Q b : Int} (h : Wd w e f P Q b) : Ct 11 #[.int .i64 w] (.bool (f != 0)) := by
  have hk := fun W => cknown_l W (hide (fun W => fields_any h W))
  rw [show (e != 0) = (f != 0) by rcases h with ⟨-, rfl, rfl, -⟩ | ⟨-, rfl, rfl, -⟩ | ⟨-, rfl, rfl, -⟩ <;> decide] at hk
  exact hide hk
theorem cexact_no {w e f P Q b k e' f' P' Q' b' x : Int} (kw : Wd w e f P Q b) (kk : Wd k e' f' P' Q' b') (h : f = 0 ∨ f' = 0) (s : Bool) : Ct 7 #[.int .i64 w, .int .i64 k, .int .u64 x, .bool s] (.bool false) := by
  have HW := cknown_any kw
  have HK := cknown_any kk
  by_cases hf : f = 0
  · rw [ne_f hf] at HW
    exact hide (fun W => exact_no1 W HW)
  · rw [ne_t hf] at HW
    rw [ne_f (h.resolve_left hf)] at HK
    exact hide (fun W => exact_no2 W HW HK)
theorem cexact_any {w e f P Q b k e' f' P' Q' b' x : Int} (kw : Kd w e f P Q b) (kk : Kd k e' f' P' Q' b') (s : Bool) (x0 : 0 ≤ x) (x1 : x < 18446744073709551616) : Cm 7 #[.int .i64 w, .int .i64 k, .int .u64 x, .bool s] (.bool (exB f b (amt (P' * Q') s x).toNat)) := by
  have HW := cknown_any kw.wd
  have HK := cknown_any kk.wd
  rw [ne_t kw.f0] at HW
  rw [ne_t kk.f0] at HK
  obtain ⟨a0, a1, -⟩ := amt_in kk s x
  rw [← span_exB kw (show (amt (P' * Q') s x).toNat < 18446744073709551616 by omega)]
  exact hide (fun W m => exact_yes W m HW HK (number_any kk s x0 x1) (hide (fun W => fields_any kw.wd W)) (i64_id (by rcases kw with ⟨-, -, rfl, -⟩ | ⟨-, -, rfl, -⟩ <;> omega) (by rcases kw with ⟨-, -, rfl, -⟩ | ⟨-, -, rfl, -⟩ <;> omega)) (span_any a0 a1))

end Go.Proofs.YtmbkpmcmhmldgaaDoor
