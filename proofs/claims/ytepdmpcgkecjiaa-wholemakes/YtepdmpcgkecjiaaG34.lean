/- Pack, PackA, PackB, Whole, KeepsA, Narrow, SumB, SumC, SumD, OrdA, OrdB, OrdD, OrdE, OrdR, CmpA, Number. -/
import Derived.Test.YtepdmpcgkecjiaaG01
import Derived.Test.YtepdmpcgkecjiaaG09
import Derived.Test.YtepdmpcgkecjiaaG23
import Derived.Test.YtepdmpcgkecjiaaG25
import Derived.Test.YtepdmpcgkecjiaaG26
import Derived.Test.YtepdmpcgkecjiaaG29
import Derived.Test.YtepdmpcgkecjiaaG32
import Derived.Laws.BitsAllLaws
import Derived.ProofKit
import Derived.Lib.SmallJoins
namespace Go.Proofs.Ytepdmpcgkecjiaa
open Go.RowKit

theorem set_same9 {b o : Nat} {w : World} (h : Room b 9 w) (ho : o < 9) (v : Value) : (w.setCell ⟨b, o, none⟩ v).cell? ⟨b, o, none⟩ = some v := by
  obtain ⟨⟨u, h1⟩, _⟩ := h o ho
  exact World.cell?_setCell_same _ _ _ h1
theorem at9_set9 {b : Nat} {w : World} (h : Room b 9 w) (v0 v1 v2 v3 v4 v5 v6 v7 v8 : Value) :
    At9 b v0 v1 v2 v3 v4 v5 v6 v7 v8 (((((((((w.setCell ⟨b, 0, none⟩ v0).setCell ⟨b, 1, none⟩ v1).setCell ⟨b, 2, none⟩ v2).setCell ⟨b, 3, none⟩ v3).setCell ⟨b, 4, none⟩ v4).setCell ⟨b, 5, none⟩ v5).setCell ⟨b, 6, none⟩ v6).setCell ⟨b, 7, none⟩ v7).setCell ⟨b, 8, none⟩ v8) :=
  ⟨set_off _ (by omega) (set_off _ (by omega) (set_off _ (by omega) (set_off _ (by omega) (set_off _ (by omega) (set_off _ (by omega) (set_off _ (by omega) (set_off _ (by omega) (set_same9 h (by omega) _)))))))),
   set_off _ (by omega) (set_off _ (by omega) (set_off _ (by omega) (set_off _ (by omega) (set_off _ (by omega) (set_off _ (by omega) (set_off _ (by omega) (set_same9 (h.set _ _) (by omega) _))))))),
   set_off _ (by omega) (set_off _ (by omega) (set_off _ (by omega) (set_off _ (by omega) (set_off _ (by omega) (set_off _ (by omega) (set_same9 ((h.set _ _).set _ _) (by omega) _)))))),
   set_off _ (by omega) (set_off _ (by omega) (set_off _ (by omega) (set_off _ (by omega) (set_off _ (by omega) (set_same9 (((h.set _ _).set _ _).set _ _) (by omega) _))))),
   set_off _ (by omega) (set_off _ (by omega) (set_off _ (by omega) (set_off _ (by omega) (set_same9 ((((h.set _ _).set _ _).set _ _).set _ _) (by omega) _)))),
   set_off _ (by omega) (set_off _ (by omega) (set_off _ (by omega) (set_same9 (((((h.set _ _).set _ _).set _ _).set _ _).set _ _) (by omega) _))),
   set_off _ (by omega) (set_off _ (by omega) (set_same9 ((((((h.set _ _).set _ _).set _ _).set _ _).set _ _).set _ _) (by omega) _)),
   set_off _ (by omega) (set_same9 (((((((h.set _ _).set _ _).set _ _).set _ _).set _ _).set _ _).set _ _) (by omega) _),
   set_same9 ((((((((h.set _ _).set _ _).set _ _).set _ _).set _ _).set _ _).set _ _).set _ _) (by omega) _⟩
theorem bset9 {a b : World} {c : Nat} (h : Below a.heap.size a b) (hc : a.heap.size ≤ c) (v0 v1 v2 v3 v4 v5 v6 v7 v8 : Value) :
    Below a.heap.size a (((((((((b.setCell ⟨c, 0, none⟩ v0).setCell ⟨c, 1, none⟩ v1).setCell ⟨c, 2, none⟩ v2).setCell ⟨c, 3, none⟩ v3).setCell ⟨c, 4, none⟩ v4).setCell ⟨c, 5, none⟩ v5).setCell ⟨c, 6, none⟩ v6).setCell ⟨c, 7, none⟩ v7).setCell ⟨c, 8, none⟩ v8) :=
  (bset (bset (bset (bset (bset (bset (bset (bset (bset h _ hc _ _) _ hc _ _) _ hc _ _) _ hc _ _) _ hc _ _) _ hc _ _) _ hc _ _) _ hc _ _) _ hc _ _)
theorem At2.set9 {b c : Nat} {x y : Value} {w : World} (h : At2 b x y w) (hc : b ≠ c) (v0 v1 v2 v3 v4 v5 v6 v7 v8 : Value) :
    At2 b x y (((((((((w.setCell ⟨c, 0, none⟩ v0).setCell ⟨c, 1, none⟩ v1).setCell ⟨c, 2, none⟩ v2).setCell ⟨c, 3, none⟩ v3).setCell ⟨c, 4, none⟩ v4).setCell ⟨c, 5, none⟩ v5).setCell ⟨c, 6, none⟩ v6).setCell ⟨c, 7, none⟩ v7).setCell ⟨c, 8, none⟩ v8) :=
  (((((((((h.set hc _ _).set hc _ _).set hc _ _).set hc _ _).set hc _ _).set hc _ _).set hc _ _).set hc _ _).set hc _ _)
theorem fresh_room9 {N b : Nat} {v0 v1 v2 v3 v4 v5 v6 v7 v8 : Value} {w : World} (h : Fresh N #[v0, v1, v2, v3, v4, v5, v6, v7, v8] b w) : Room b 9 w := fun o ho => by
  refine ⟨?_, h.thawed o⟩
  match o, ho with
  | 0, _ => exact ⟨_, h.cell 0 _ rfl⟩
  | 1, _ => exact ⟨_, h.cell 1 _ rfl⟩
  | 2, _ => exact ⟨_, h.cell 2 _ rfl⟩
  | 3, _ => exact ⟨_, h.cell 3 _ rfl⟩
  | 4, _ => exact ⟨_, h.cell 4 _ rfl⟩
  | 5, _ => exact ⟨_, h.cell 5 _ rfl⟩
  | 6, _ => exact ⟨_, h.cell 6 _ rfl⟩
  | 7, _ => exact ⟨_, h.cell 7 _ rfl⟩
  | 8, _ => exact ⟨_, h.cell 8 _ rfl⟩

set_option maxRecDepth 100000 in
set_option maxHeartbeats 2000000 in
theorem floatsOf_l {w e f X1 S1 K1 X2 S2 K2 Mx : Int} {n1 n2 : Bool} (W : World) (HF : Hid (∀ W, Calls Try.prog 68 #[.int .i64 w] W fun r W' => r = .returned (.tuple #[.int .i64 e, .int .i64 f]) ∧ Below W.heap.size W W'))
    (H1 : Hid (∀ W, Calls Try.prog 16 #[.int .i64 w, .int .u64 1] W fun r W' => r = .returned (.agg #[.bool n1, .int .i64 K1, .int .i64 X1, .int .u64 S1]) ∧ Below W.heap.size W W')) (HM : Hid (∀ W, Calls Try.prog 88 #[.int .i64 w, .bool false] W fun r W' => r = .returned (.int .u64 Mx) ∧ Below W.heap.size W W'))
    (H2 : Hid (∀ W, Calls Try.prog 16 #[.int .i64 w, .int .u64 Mx] W fun r W' => r = .returned (.agg #[.bool n2, .int .i64 K2, .int .i64 X2, .int .u64 S2]) ∧ Below W.heap.size W W')) :
    Calls Try.prog 77 #[.int .i64 w] W fun r W' => r = .returned (.agg #[.int .i64 w, .int .i64 f, .int .i64 X1, .int .i64 X2]) ∧ Below W.heap.size W W' := by
  have f1 : ∀ W : World, (Instr.field 36 (.agg #[.bool n1, .int .i64 K1, .int .i64 X1, .int .u64 S1]) 2).run Try.prog W = .ok (.int .i64 X1) W := fun _ => by kernel_rfl
  have f2 : ∀ W : World, (Instr.field 36 (.agg #[.bool n2, .int .i64 K2, .int .i64 X2, .int .u64 S2]) 2).run Try.prog W = .ok (.int .i64 X2) W := fun _ => by kernel_rfl
  have HR : Hid (Room W.heap.size 4 (W.alloc (.cells #[.int .i64 0, .int .i64 0, .int .i64 0, .int .i64 0] 93))) := room4 (Below.refl _ _)
  have HB := hide (below1 W (.cells #[.int .i64 0, .int .i64 0, .int .i64 0, .int .i64 0] 93))
  go_enter Try.func77, Try.ntmps77
  go_wp2_with fail
  refine (unhide HF _).mono ?_
  rintro _ w1 ⟨rfl, hbl⟩
  have HB := hide (bthen (unhide HB) hbl)
  have HR := hide ((unhide HR).below hbl)
  clear hbl
  go_wp2_with fail
  refine (unhide H1 _).mono ?_
  rintro _ w2 ⟨rfl, hbl⟩
  have HB := hide (bthen (unhide HB) hbl)
  have HR := hide ((unhide HR).below hbl)
  clear hbl
  go_wp2_with fail
  refine (unhide HM _).mono ?_
  rintro _ w3 ⟨rfl, hbl⟩
  have HB := hide (bthen (unhide HB) hbl)
  have HR := hide ((unhide HR).below hbl)
  clear hbl
  go_wp2_with fail
  refine (unhide H2 _).mono ?_
  rintro _ w4 ⟨rfl, hbl⟩
  have HB := hide (bthen (unhide HB) hbl)
  have HR := hide ((unhide HR).below hbl)
  clear hbl
  obtain ⟨⟨v0, c0⟩, r0⟩ := (unhide HR) 0 (by omega)
  obtain ⟨⟨v1, c1⟩, r1⟩ := (unhide HR) 1 (by omega)
  obtain ⟨⟨v2, c2⟩, r2⟩ := (unhide HR) 2 (by omega)
  obtain ⟨⟨v3, c3⟩, r3⟩ := (unhide HR) 3 (by omega)
  go_wp2_with fail
  exact bodyPost_ret (v := .agg #[.int .i64 w, .int .i64 f, .int .i64 X1, .int .i64 X2]) (by simp (maxDischargeDepth := 8) [results, Try.results77, go_sem, c0, c1, c2, c3]) rfl ⟨rfl, bset4 (unhide HB) _ _ _ _⟩

set_option maxRecDepth 100000 in
set_option maxHeartbeats 4000000 in
theorem pack_m {w h l X f L M V : Int} {n m : Bool} (W : World) (xa : ¬ X < -4096) (xb : ¬ 4096 < X) (HO : Hid (∀ W, Calls Try.prog 77 #[.int .i64 w] W fun r W' => r = .returned (.agg #[.int .i64 w, .int .i64 f, .int .i64 L, .int .i64 M]) ∧ Below W.heap.size W W'))
    (HN : Hid (∀ W, Calls Try.prog 78 #[.agg #[.bool n, .int .u64 h, .int .u64 l, .int .i64 X, .bool m, .int .i64 w, .int .i64 f, .int .i64 L, .int .i64 M]] W fun r W' => r = .returned (.int .u64 V) ∧ Below W.heap.size W W')) :
    Calls Try.prog 62 #[.int .i64 w, .bool n, .agg #[.int .u64 h, .int .u64 l], .int .i64 X, .bool m] W fun r W' => r = .returned (.int .u64 V) ∧ Below W.heap.size W W' := by
  go_enter Try.func62, Try.ntmps62
  go_wp2_with fail
  refine wp_region_held_drew (S := fun w' => w'.cell? ⟨W.heap.size, 0, none⟩ = some (.int .u64 h) ∧ w'.cell? ⟨W.heap.size, 1, none⟩ = some (.int .u64 l)) (by kernel_rfl) ?_ (fun hHeld => ?_)
  · (try dsimp only)
    simp [go_sem]
  refine wo_start (N := W.heap.size + 1) (i1 := 8) (d1 := 11) (v1 := #[.bool false, .int .u64 0, .int .u64 0, .int .i64 0, .bool false, .int .i64 0, .int .i64 0, .int .i64 0, .int .i64 0]) (t1 := 96) (f := 1) (n := 8) (T := fun w' => Below W.heap.size W w') (by kernel_rfl) (by kernel_rfl) (fun _ _ _ _ _ h => h) (stable_at2 _ _ _) ?_ (stable_below W) hHeld ((below1 W _).drew) (by simp) ?_
  · intro a w K h
    unfold wpOp
    go_simp
    exact Or.inl h
  clear hHeld
  refine wo_take (i := 0) (oi := { dst := some 15, op := _, type := _, pos := _, after := _, guard := _ }) rfl (by kernel_rfl) (by kernel_rfl) (fun _ _ _ h => h) (Or.inl ⟨by rfl, fun w hSw => by (try dsimp only at hSw); go_simp; with_reducible rfl⟩) ?_
  (try simp only [Act.put, List.setIfInBounds_toArray, List.set_cons_zero, List.set_cons_succ])
  refine wo_take (i := 1) (oi := { dst := some 16, op := _, type := _, pos := _, after := _, guard := _ }) rfl (by kernel_rfl) (by kernel_rfl) (fun _ _ _ h => h) (Or.inl ⟨by rfl, fun w hSw => by (try dsimp only at hSw); go_simp; with_reducible rfl⟩) ?_
  (try simp only [Act.put, List.setIfInBounds_toArray, List.set_cons_zero, List.set_cons_succ])
  refine wo_take (i := 2) (oi := { dst := some 17, op := _, type := _, pos := _, after := _, guard := _ }) rfl (by kernel_rfl) (by kernel_rfl) (fun _ _ _ h => h) (Or.inl ⟨by rfl, fun w hSw => by (try dsimp only at hSw); go_simp; with_reducible rfl⟩) ?_
  (try simp only [Act.put, List.setIfInBounds_toArray, List.set_cons_zero, List.set_cons_succ])
  refine wo_take (i := 3) (oi := { dst := some 18, op := _, type := _, pos := _, after := _, guard := _ }) rfl (by kernel_rfl) (by kernel_rfl) (fun _ _ _ h => h) (Or.inl ⟨by rfl, fun w hSw => by (try dsimp only at hSw); go_simp; with_reducible rfl⟩) ?_
  (try simp only [Act.put, List.setIfInBounds_toArray, List.set_cons_zero, List.set_cons_succ])
  refine wo_take (i := 4) (oi := { dst := some 19, op := _, type := _, pos := _, after := _, guard := _ }) rfl (by kernel_rfl) (by kernel_rfl) (fun _ _ _ h => h) (Or.inl ⟨by rfl, fun w hSw => by (try dsimp only at hSw); go_simp; with_reducible rfl⟩) ?_
  (try simp only [Act.put, List.setIfInBounds_toArray, List.set_cons_zero, List.set_cons_succ])
  refine wo_take (i := 5) (oi := { dst := some 20, op := _, type := _, pos := _, after := _, guard := _ }) rfl (by kernel_rfl) (by kernel_rfl) (fun _ _ _ h => h) (Or.inl ⟨by rfl, fun w hSw => by (try dsimp only at hSw); go_simp; with_reducible rfl⟩) ?_
  (try simp only [Act.put, List.setIfInBounds_toArray, List.set_cons_zero, List.set_cons_succ])
  refine wo_call (c := 6) (o := { dst := some 21, op := _, type := _, pos := _, after := _, guard := _ }) rfl (by kernel_rfl) (by kernel_rfl) (fun u hSu hTu Kk hKk => ?_)
  go_simp
  refine (unhide HO _).mono ?_
  rintro _ wn ⟨rfl, hbl⟩
  have HTn := hide (bthen hTu hbl)
  clear hTu hSu
  (try go_wp2_with fail)
  refine hKk.out _ _ (fun w' => Below W.heap.size W w') (by assumption) (stable_below W) (unhide HTn) ?_
  clear hKk Kk HTn
  (try simp only [Act.put, List.setIfInBounds_toArray, List.set_cons_zero, List.set_cons_succ])
  refine wo_take (i := 7) (oi := { dst := some 22, op := _, type := _, pos := _, after := _, guard := _ }) rfl (by kernel_rfl) (by kernel_rfl) (fun _ _ _ h => h) (Or.inl ⟨by rfl, fun w hSw => by (try dsimp only at hSw); go_simp; with_reducible rfl⟩) ?_
  (try simp only [Act.put, List.setIfInBounds_toArray, List.set_cons_zero, List.set_cons_succ])
  refine wo_fin (by kernel_rfl) (fun wf b1 hSu hTu k1 => ?_)
  (try simp only [Act.put, List.setIfInBounds_toArray, List.set_cons_zero, List.set_cons_succ])
  unfold ptr
  have zb := k1.base
  have HRm := hide (fresh_room9 k1)
  obtain ⟨⟨v0, c0⟩, f0⟩ := (unhide HRm) 0 (by omega)
  obtain ⟨⟨v1, c1⟩, f1⟩ := (unhide HRm) 1 (by omega)
  obtain ⟨⟨v2, c2⟩, f2⟩ := (unhide HRm) 2 (by omega)
  obtain ⟨⟨v3, c3⟩, f3⟩ := (unhide HRm) 3 (by omega)
  obtain ⟨⟨v4, c4⟩, f4⟩ := (unhide HRm) 4 (by omega)
  obtain ⟨⟨v5, c5⟩, f5⟩ := (unhide HRm) 5 (by omega)
  obtain ⟨⟨v6, c6⟩, f6⟩ := (unhide HRm) 6 (by omega)
  obtain ⟨⟨v7, c7⟩, f7⟩ := (unhide HRm) 7 (by omega)
  obtain ⟨⟨v8, c8⟩, f8⟩ := (unhide HRm) 8 (by omega)
  refine anyH_at #[true, true, true, true, true, true, true, true, true, false] (by kernel_rfl) ?_
  refine wpAnyH_ready (rs := [9]) (by kernel_rfl) (by simp) ?_
  refine AllReadyH.cons (o := { dst := none, op := _, type := _, pos := _, after := _, guard := _ }) rfl (fun Kk hKk => ?_) AllReadyH.nil
  go_simp
  refine hKk.out _ _ ?_ (fun hHeld => ?_)
  · (try dsimp only)
    exact At2.set9 hSu (by omega) _ _ _ _ _ _ _ _ _
  clear hKk Kk
  refine wpAnyH_done (by kernel_rfl) ?_ _
  have HA9 := hide (at9_set9 (unhide HRm) (.bool n) (.int .u64 h) (.int .u64 l) (.int .i64 X) (.bool m) (.int .i64 w) (.int .i64 f) (.int .i64 L) (.int .i64 M))
  have HB := hide (bset9 (c := b1) hTu (by omega) (.bool n) (.int .u64 h) (.int .u64 l) (.int .i64 X) (.bool m) (.int .i64 w) (.int .i64 f) (.int .i64 L) (.int .i64 M))
  clear hHeld hSu hTu k1 c0 c1 c2 c3 c4 c5 c6 c7 c8 f0 f1 f2 f3 f4 f5 f6 f7 f8
  generalize ((((((((wf.setCell ⟨b1, 0, none⟩ (.bool n)).setCell ⟨b1, 1, none⟩ (.int .u64 h)).setCell ⟨b1, 2, none⟩ (.int .u64 l)).setCell ⟨b1, 3, none⟩ (.int .i64 X)).setCell ⟨b1, 4, none⟩ (.bool m)).setCell ⟨b1, 5, none⟩ (.int .i64 w)).setCell ⟨b1, 6, none⟩ (.int .i64 f)).setCell ⟨b1, 7, none⟩ (.int .i64 L)).setCell ⟨b1, 8, none⟩ (.int .i64 M) = wx at *
  obtain ⟨a0, a1, a2, a3, a4, a5, a6, a7, a8⟩ := unhide HA9
  go_wp2_with fail
  refine (unhide HN _).mono ?_
  rintro _ wz ⟨rfl, hbl⟩
  have HB := hide (bthen (unhide HB) hbl)
  go_wp2_with fail
  go_ret
  exact ⟨rfl, unhide HB⟩

set_option maxRecDepth 100000 in
set_option maxHeartbeats 4000000 in
theorem pack_l {w h l X f L M V : Int} {n m : Bool} (W : World) (xa : X < -4096) (HO : Hid (∀ W, Calls Try.prog 77 #[.int .i64 w] W fun r W' => r = .returned (.agg #[.int .i64 w, .int .i64 f, .int .i64 L, .int .i64 M]) ∧ Below W.heap.size W W'))
    (HN : Hid (∀ W, Calls Try.prog 78 #[.agg #[.bool n, .int .u64 h, .int .u64 l, .int .i64 (-4096), .bool m, .int .i64 w, .int .i64 f, .int .i64 L, .int .i64 M]] W fun r W' => r = .returned (.int .u64 V) ∧ Below W.heap.size W W')) :
    Calls Try.prog 62 #[.int .i64 w, .bool n, .agg #[.int .u64 h, .int .u64 l], .int .i64 X, .bool m] W fun r W' => r = .returned (.int .u64 V) ∧ Below W.heap.size W W' := by
  go_enter Try.func62, Try.ntmps62
  go_wp2_with fail
  refine wp_region_held_drew (S := fun w' => w'.cell? ⟨W.heap.size, 0, none⟩ = some (.int .u64 h) ∧ w'.cell? ⟨W.heap.size, 1, none⟩ = some (.int .u64 l)) (by kernel_rfl) ?_ (fun hHeld => ?_)
  · (try dsimp only)
    simp [go_sem]
  refine wo_start (N := W.heap.size + 1) (i1 := 8) (d1 := 11) (v1 := #[.bool false, .int .u64 0, .int .u64 0, .int .i64 0, .bool false, .int .i64 0, .int .i64 0, .int .i64 0, .int .i64 0]) (t1 := 96) (f := 1) (n := 8) (T := fun w' => Below W.heap.size W w') (by kernel_rfl) (by kernel_rfl) (fun _ _ _ _ _ h => h) (stable_at2 _ _ _) ?_ (stable_below W) hHeld ((below1 W _).drew) (by simp) ?_
  · intro a w K h
    unfold wpOp
    go_simp
    exact Or.inl h
  clear hHeld
  refine wo_take (i := 0) (oi := { dst := some 15, op := _, type := _, pos := _, after := _, guard := _ }) rfl (by kernel_rfl) (by kernel_rfl) (fun _ _ _ h => h) (Or.inl ⟨by rfl, fun w hSw => by (try dsimp only at hSw); go_simp; with_reducible rfl⟩) ?_
  (try simp only [Act.put, List.setIfInBounds_toArray, List.set_cons_zero, List.set_cons_succ])
  refine wo_take (i := 1) (oi := { dst := some 16, op := _, type := _, pos := _, after := _, guard := _ }) rfl (by kernel_rfl) (by kernel_rfl) (fun _ _ _ h => h) (Or.inl ⟨by rfl, fun w hSw => by (try dsimp only at hSw); go_simp; with_reducible rfl⟩) ?_
  (try simp only [Act.put, List.setIfInBounds_toArray, List.set_cons_zero, List.set_cons_succ])
  refine wo_take (i := 2) (oi := { dst := some 17, op := _, type := _, pos := _, after := _, guard := _ }) rfl (by kernel_rfl) (by kernel_rfl) (fun _ _ _ h => h) (Or.inl ⟨by rfl, fun w hSw => by (try dsimp only at hSw); go_simp; with_reducible rfl⟩) ?_
  (try simp only [Act.put, List.setIfInBounds_toArray, List.set_cons_zero, List.set_cons_succ])
  refine wo_take (i := 3) (oi := { dst := some 18, op := _, type := _, pos := _, after := _, guard := _ }) rfl (by kernel_rfl) (by kernel_rfl) (fun _ _ _ h => h) (Or.inl ⟨by rfl, fun w hSw => by (try dsimp only at hSw); go_simp; with_reducible rfl⟩) ?_
  (try simp only [Act.put, List.setIfInBounds_toArray, List.set_cons_zero, List.set_cons_succ])
  refine wo_take (i := 4) (oi := { dst := some 19, op := _, type := _, pos := _, after := _, guard := _ }) rfl (by kernel_rfl) (by kernel_rfl) (fun _ _ _ h => h) (Or.inl ⟨by rfl, fun w hSw => by (try dsimp only at hSw); go_simp; with_reducible rfl⟩) ?_
  (try simp only [Act.put, List.setIfInBounds_toArray, List.set_cons_zero, List.set_cons_succ])
  refine wo_take (i := 5) (oi := { dst := some 20, op := _, type := _, pos := _, after := _, guard := _ }) rfl (by kernel_rfl) (by kernel_rfl) (fun _ _ _ h => h) (Or.inl ⟨by rfl, fun w hSw => by (try dsimp only at hSw); go_simp; with_reducible rfl⟩) ?_
  (try simp only [Act.put, List.setIfInBounds_toArray, List.set_cons_zero, List.set_cons_succ])
  refine wo_call (c := 6) (o := { dst := some 21, op := _, type := _, pos := _, after := _, guard := _ }) rfl (by kernel_rfl) (by kernel_rfl) (fun u hSu hTu Kk hKk => ?_)
  go_simp
  refine (unhide HO _).mono ?_
  rintro _ wn ⟨rfl, hbl⟩
  have HTn := hide (bthen hTu hbl)
  clear hTu hSu
  (try go_wp2_with fail)
  refine hKk.out _ _ (fun w' => Below W.heap.size W w') (by assumption) (stable_below W) (unhide HTn) ?_
  clear hKk Kk HTn
  (try simp only [Act.put, List.setIfInBounds_toArray, List.set_cons_zero, List.set_cons_succ])
  refine wo_take (i := 7) (oi := { dst := some 22, op := _, type := _, pos := _, after := _, guard := _ }) rfl (by kernel_rfl) (by kernel_rfl) (fun _ _ _ h => h) (Or.inl ⟨by rfl, fun w hSw => by (try dsimp only at hSw); go_simp; with_reducible rfl⟩) ?_
  (try simp only [Act.put, List.setIfInBounds_toArray, List.set_cons_zero, List.set_cons_succ])
  refine wo_fin (by kernel_rfl) (fun wf b1 hSu hTu k1 => ?_)
  (try simp only [Act.put, List.setIfInBounds_toArray, List.set_cons_zero, List.set_cons_succ])
  unfold ptr
  have zb := k1.base
  have HRm := hide (fresh_room9 k1)
  obtain ⟨⟨v0, c0⟩, f0⟩ := (unhide HRm) 0 (by omega)
  obtain ⟨⟨v1, c1⟩, f1⟩ := (unhide HRm) 1 (by omega)
  obtain ⟨⟨v2, c2⟩, f2⟩ := (unhide HRm) 2 (by omega)
  obtain ⟨⟨v3, c3⟩, f3⟩ := (unhide HRm) 3 (by omega)
  obtain ⟨⟨v4, c4⟩, f4⟩ := (unhide HRm) 4 (by omega)
  obtain ⟨⟨v5, c5⟩, f5⟩ := (unhide HRm) 5 (by omega)
  obtain ⟨⟨v6, c6⟩, f6⟩ := (unhide HRm) 6 (by omega)
  obtain ⟨⟨v7, c7⟩, f7⟩ := (unhide HRm) 7 (by omega)
  obtain ⟨⟨v8, c8⟩, f8⟩ := (unhide HRm) 8 (by omega)
  refine anyH_at #[true, true, true, true, true, true, true, true, true, false] (by kernel_rfl) ?_
  refine wpAnyH_ready (rs := [9]) (by kernel_rfl) (by simp) ?_
  refine AllReadyH.cons (o := { dst := none, op := _, type := _, pos := _, after := _, guard := _ }) rfl (fun Kk hKk => ?_) AllReadyH.nil
  go_simp
  refine hKk.out _ _ ?_ (fun hHeld => ?_)
  · (try dsimp only)
    exact At2.set9 hSu (by omega) _ _ _ _ _ _ _ _ _
  clear hKk Kk
  refine wpAnyH_done (by kernel_rfl) ?_ _
  have HA9 := hide (at9_set9 (unhide HRm) (.bool n) (.int .u64 h) (.int .u64 l) (.int .i64 (-4096)) (.bool m) (.int .i64 w) (.int .i64 f) (.int .i64 L) (.int .i64 M))
  have HB := hide (bset9 (c := b1) hTu (by omega) (.bool n) (.int .u64 h) (.int .u64 l) (.int .i64 (-4096)) (.bool m) (.int .i64 w) (.int .i64 f) (.int .i64 L) (.int .i64 M))
  clear hHeld hSu hTu k1 c0 c1 c2 c3 c4 c5 c6 c7 c8 f0 f1 f2 f3 f4 f5 f6 f7 f8
  generalize ((((((((wf.setCell ⟨b1, 0, none⟩ (.bool n)).setCell ⟨b1, 1, none⟩ (.int .u64 h)).setCell ⟨b1, 2, none⟩ (.int .u64 l)).setCell ⟨b1, 3, none⟩ (.int .i64 (-4096))).setCell ⟨b1, 4, none⟩ (.bool m)).setCell ⟨b1, 5, none⟩ (.int .i64 w)).setCell ⟨b1, 6, none⟩ (.int .i64 f)).setCell ⟨b1, 7, none⟩ (.int .i64 L)).setCell ⟨b1, 8, none⟩ (.int .i64 M) = wx at *
  obtain ⟨a0, a1, a2, a3, a4, a5, a6, a7, a8⟩ := unhide HA9
  go_wp2_with fail
  refine (unhide HN _).mono ?_
  rintro _ wz ⟨rfl, hbl⟩
  have HB := hide (bthen (unhide HB) hbl)
  go_wp2_with fail
  go_ret
  exact ⟨rfl, unhide HB⟩

set_option maxRecDepth 100000 in
set_option maxHeartbeats 4000000 in
theorem pack_h {w h l X f L M V : Int} {n m : Bool} (W : World) (xa : ¬ X < -4096) (xb : 4096 < X) (HO : Hid (∀ W, Calls Try.prog 77 #[.int .i64 w] W fun r W' => r = .returned (.agg #[.int .i64 w, .int .i64 f, .int .i64 L, .int .i64 M]) ∧ Below W.heap.size W W'))
    (HN : Hid (∀ W, Calls Try.prog 78 #[.agg #[.bool n, .int .u64 h, .int .u64 l, .int .i64 4096, .bool m, .int .i64 w, .int .i64 f, .int .i64 L, .int .i64 M]] W fun r W' => r = .returned (.int .u64 V) ∧ Below W.heap.size W W')) :
    Calls Try.prog 62 #[.int .i64 w, .bool n, .agg #[.int .u64 h, .int .u64 l], .int .i64 X, .bool m] W fun r W' => r = .returned (.int .u64 V) ∧ Below W.heap.size W W' := by
  go_enter Try.func62, Try.ntmps62
  go_wp2_with fail
  refine wp_region_held_drew (S := fun w' => w'.cell? ⟨W.heap.size, 0, none⟩ = some (.int .u64 h) ∧ w'.cell? ⟨W.heap.size, 1, none⟩ = some (.int .u64 l)) (by kernel_rfl) ?_ (fun hHeld => ?_)
  · (try dsimp only)
    simp [go_sem]
  refine wo_start (N := W.heap.size + 1) (i1 := 8) (d1 := 11) (v1 := #[.bool false, .int .u64 0, .int .u64 0, .int .i64 0, .bool false, .int .i64 0, .int .i64 0, .int .i64 0, .int .i64 0]) (t1 := 96) (f := 1) (n := 8) (T := fun w' => Below W.heap.size W w') (by kernel_rfl) (by kernel_rfl) (fun _ _ _ _ _ h => h) (stable_at2 _ _ _) ?_ (stable_below W) hHeld ((below1 W _).drew) (by simp) ?_
  · intro a w K h
    unfold wpOp
    go_simp
    exact Or.inl h
  clear hHeld
  refine wo_take (i := 0) (oi := { dst := some 15, op := _, type := _, pos := _, after := _, guard := _ }) rfl (by kernel_rfl) (by kernel_rfl) (fun _ _ _ h => h) (Or.inl ⟨by rfl, fun w hSw => by (try dsimp only at hSw); go_simp; with_reducible rfl⟩) ?_
  (try simp only [Act.put, List.setIfInBounds_toArray, List.set_cons_zero, List.set_cons_succ])
  refine wo_take (i := 1) (oi := { dst := some 16, op := _, type := _, pos := _, after := _, guard := _ }) rfl (by kernel_rfl) (by kernel_rfl) (fun _ _ _ h => h) (Or.inl ⟨by rfl, fun w hSw => by (try dsimp only at hSw); go_simp; with_reducible rfl⟩) ?_
  (try simp only [Act.put, List.setIfInBounds_toArray, List.set_cons_zero, List.set_cons_succ])
  refine wo_take (i := 2) (oi := { dst := some 17, op := _, type := _, pos := _, after := _, guard := _ }) rfl (by kernel_rfl) (by kernel_rfl) (fun _ _ _ h => h) (Or.inl ⟨by rfl, fun w hSw => by (try dsimp only at hSw); go_simp; with_reducible rfl⟩) ?_
  (try simp only [Act.put, List.setIfInBounds_toArray, List.set_cons_zero, List.set_cons_succ])
  refine wo_take (i := 3) (oi := { dst := some 18, op := _, type := _, pos := _, after := _, guard := _ }) rfl (by kernel_rfl) (by kernel_rfl) (fun _ _ _ h => h) (Or.inl ⟨by rfl, fun w hSw => by (try dsimp only at hSw); go_simp; with_reducible rfl⟩) ?_
  (try simp only [Act.put, List.setIfInBounds_toArray, List.set_cons_zero, List.set_cons_succ])
  refine wo_take (i := 4) (oi := { dst := some 19, op := _, type := _, pos := _, after := _, guard := _ }) rfl (by kernel_rfl) (by kernel_rfl) (fun _ _ _ h => h) (Or.inl ⟨by rfl, fun w hSw => by (try dsimp only at hSw); go_simp; with_reducible rfl⟩) ?_
  (try simp only [Act.put, List.setIfInBounds_toArray, List.set_cons_zero, List.set_cons_succ])
  refine wo_take (i := 5) (oi := { dst := some 20, op := _, type := _, pos := _, after := _, guard := _ }) rfl (by kernel_rfl) (by kernel_rfl) (fun _ _ _ h => h) (Or.inl ⟨by rfl, fun w hSw => by (try dsimp only at hSw); go_simp; with_reducible rfl⟩) ?_
  (try simp only [Act.put, List.setIfInBounds_toArray, List.set_cons_zero, List.set_cons_succ])
  refine wo_call (c := 6) (o := { dst := some 21, op := _, type := _, pos := _, after := _, guard := _ }) rfl (by kernel_rfl) (by kernel_rfl) (fun u hSu hTu Kk hKk => ?_)
  go_simp
  refine (unhide HO _).mono ?_
  rintro _ wn ⟨rfl, hbl⟩
  have HTn := hide (bthen hTu hbl)
  clear hTu hSu
  (try go_wp2_with fail)
  refine hKk.out _ _ (fun w' => Below W.heap.size W w') (by assumption) (stable_below W) (unhide HTn) ?_
  clear hKk Kk HTn
  (try simp only [Act.put, List.setIfInBounds_toArray, List.set_cons_zero, List.set_cons_succ])
  refine wo_take (i := 7) (oi := { dst := some 22, op := _, type := _, pos := _, after := _, guard := _ }) rfl (by kernel_rfl) (by kernel_rfl) (fun _ _ _ h => h) (Or.inl ⟨by rfl, fun w hSw => by (try dsimp only at hSw); go_simp; with_reducible rfl⟩) ?_
  (try simp only [Act.put, List.setIfInBounds_toArray, List.set_cons_zero, List.set_cons_succ])
  refine wo_fin (by kernel_rfl) (fun wf b1 hSu hTu k1 => ?_)
  (try simp only [Act.put, List.setIfInBounds_toArray, List.set_cons_zero, List.set_cons_succ])
  unfold ptr
  have zb := k1.base
  have HRm := hide (fresh_room9 k1)
  obtain ⟨⟨v0, c0⟩, f0⟩ := (unhide HRm) 0 (by omega)
  obtain ⟨⟨v1, c1⟩, f1⟩ := (unhide HRm) 1 (by omega)
  obtain ⟨⟨v2, c2⟩, f2⟩ := (unhide HRm) 2 (by omega)
  obtain ⟨⟨v3, c3⟩, f3⟩ := (unhide HRm) 3 (by omega)
  obtain ⟨⟨v4, c4⟩, f4⟩ := (unhide HRm) 4 (by omega)
  obtain ⟨⟨v5, c5⟩, f5⟩ := (unhide HRm) 5 (by omega)
  obtain ⟨⟨v6, c6⟩, f6⟩ := (unhide HRm) 6 (by omega)
  obtain ⟨⟨v7, c7⟩, f7⟩ := (unhide HRm) 7 (by omega)
  obtain ⟨⟨v8, c8⟩, f8⟩ := (unhide HRm) 8 (by omega)
  refine anyH_at #[true, true, true, true, true, true, true, true, true, false] (by kernel_rfl) ?_
  refine wpAnyH_ready (rs := [9]) (by kernel_rfl) (by simp) ?_
  refine AllReadyH.cons (o := { dst := none, op := _, type := _, pos := _, after := _, guard := _ }) rfl (fun Kk hKk => ?_) AllReadyH.nil
  go_simp
  refine hKk.out _ _ ?_ (fun hHeld => ?_)
  · (try dsimp only)
    exact At2.set9 hSu (by omega) _ _ _ _ _ _ _ _ _
  clear hKk Kk
  refine wpAnyH_done (by kernel_rfl) ?_ _
  have HA9 := hide (at9_set9 (unhide HRm) (.bool n) (.int .u64 h) (.int .u64 l) (.int .i64 4096) (.bool m) (.int .i64 w) (.int .i64 f) (.int .i64 L) (.int .i64 M))
  have HB := hide (bset9 (c := b1) hTu (by omega) (.bool n) (.int .u64 h) (.int .u64 l) (.int .i64 4096) (.bool m) (.int .i64 w) (.int .i64 f) (.int .i64 L) (.int .i64 M))
  clear hHeld hSu hTu k1 c0 c1 c2 c3 c4 c5 c6 c7 c8 f0 f1 f2 f3 f4 f5 f6 f7 f8
  generalize ((((((((wf.setCell ⟨b1, 0, none⟩ (.bool n)).setCell ⟨b1, 1, none⟩ (.int .u64 h)).setCell ⟨b1, 2, none⟩ (.int .u64 l)).setCell ⟨b1, 3, none⟩ (.int .i64 4096)).setCell ⟨b1, 4, none⟩ (.bool m)).setCell ⟨b1, 5, none⟩ (.int .i64 w)).setCell ⟨b1, 6, none⟩ (.int .i64 f)).setCell ⟨b1, 7, none⟩ (.int .i64 L)).setCell ⟨b1, 8, none⟩ (.int .i64 M) = wx at *
  obtain ⟨a0, a1, a2, a3, a4, a5, a6, a7, a8⟩ := unhide HA9
  go_wp2_with fail
  refine (unhide HN _).mono ?_
  rintro _ wz ⟨rfl, hbl⟩
  have HB := hide (bthen (unhide HB) hbl)
  go_wp2_with fail
  go_ret
  exact ⟨rfl, unhide HB⟩

end Go.Proofs.Ytepdmpcgkecjiaa
namespace Go.Proofs.Ytepdmpcgkecjiaa
open Go.RowKit
open Go.Proofs.Ytepdmpcgkecjiaa.W

/-- What is taken of the halves. -/
def pick (N : Nat) (lost : Bool) : Nat := if N % 2 = 1 ∧ (lost = true ∨ N / 2 % 2 = 1) then N / 2 + 1 else N / 2

theorem half_parts (N : Nat) (h : N < 4611686018427387904) : (N : Int) / 2 = ((N / 2 : Nat) : Int) ∧ bits .and .u64 (N : Int) 1 = ((N % 2 : Nat) : Int) := by
  refine ⟨by omega, ?_⟩
  rw [and_mask 1 (N : Int) 1 (by omega) (by omega) rfl (by omega)]
  omega

theorem nearest_pick {h l E w f L M V T U : Int} {n m lost : Bool} {N s : Nat} (W : World) (HN : Hid (∀ W, Calls Try.prog 89 #[.agg #[.bool n, .int .u64 h, .int .u64 l, .int .i64 E, .bool m]] W fun r W' => r = .returned (.bool false) ∧ Below W.heap.size W W')) (HT : Hid (∀ W, Calls Try.prog 90 #[.agg #[.bool n, .int .u64 h, .int .u64 l, .int .i64 E, .bool m]] W fun r W' => r = .returned (.int .i64 T) ∧ Below W.heap.size W W'))
    (t0 : -10000 ≤ T) (t1 : T ≤ 10000) (f0 : 0 ≤ f) (f1 : f ≤ 63) (hU : U = if T - f < L then L else T - f) (hN : N < 4611686018427387904) (hs : pick N lost = s)
    (HH : Hid (∀ W, Calls Try.prog 91 #[.agg #[.bool n, .int .u64 h, .int .u64 l, .int .i64 E, .bool m], .int .i64 U] W fun r W' => r = .returned (.tuple #[.int .u64 (N : Int), .bool lost]) ∧ Below W.heap.size W W')) (HF : Hid (∀ W, Calls Try.prog 92 #[.agg #[.bool n, .int .u64 h, .int .u64 l, .int .i64 E, .bool m, .int .i64 w, .int .i64 f, .int .i64 L, .int .i64 M], .int .u64 (s : Int), .int .i64 U] W fun r W' => r = .returned (.int .u64 V) ∧ Below W.heap.size W W')) :
    Calls Try.prog 78 #[.agg #[.bool n, .int .u64 h, .int .u64 l, .int .i64 E, .bool m, .int .i64 w, .int .i64 f, .int .i64 L, .int .i64 M]] W fun r W' => r = .returned (.int .u64 V) ∧ Below W.heap.size W W' := by
  have kt : IntKind.i64.wrap (T - f) = T - f := i64_id (by omega) (by omega)
  obtain ⟨kN, ka⟩ := half_parts N hN
  obtain ⟨_, kb⟩ := half_parts (N / 2) (by omega)
  have kw : IntKind.u64.wrap (((N / 2 : Nat) : Int) + 1) = ((N / 2 : Nat) : Int) + 1 := by rw [IntKind.wrap_u64]; omega
  unfold pick at hs
  by_cases h1 : N % 2 = 1
  · have kh : (((N % 2 : Nat) : Int) == 1) = true := eq_t (by omega)
    cases lost
    · by_cases h2 : N / 2 % 2 = 1
      · have ko : (((N / 2 % 2 : Nat) : Int) == 1) = true := eq_t (by omega)
        rw [if_pos ⟨h1, Or.inr h2⟩] at hs
        rw [← hs, show ((N / 2 + 1 : Nat) : Int) = ((N / 2 : Nat) : Int) + 1 by omega] at HF
        by_cases xm : T - f < L
        · rw [if_pos xm] at hU; subst hU
          exact nearest_lo W HN HT kt xm kN ka kh kb ko kw HH HF
        · rw [if_neg xm] at hU; subst hU
          exact nearest_do W HN HT kt xm kN ka kh kb ko kw HH HF
      · have ko : (((N / 2 % 2 : Nat) : Int) == 1) = false := eq_f (by omega)
        rw [if_neg (by simp; omega)] at hs
        rw [← hs] at HF
        by_cases xm : T - f < L
        · rw [if_pos xm] at hU; subst hU
          exact nearest_le W HN HT kt xm kN ka kh kb ko HH HF
        · rw [if_neg xm] at hU; subst hU
          exact nearest_de W HN HT kt xm kN ka kh kb ko HH HF
    · rw [if_pos ⟨h1, Or.inl rfl⟩] at hs
      rw [← hs, show ((N / 2 + 1 : Nat) : Int) = ((N / 2 : Nat) : Int) + 1 by omega] at HF
      by_cases xm : T - f < L
      · rw [if_pos xm] at hU; subst hU
        exact nearest_lu W HN HT kt xm kN ka kh kw HH HF
      · rw [if_neg xm] at hU; subst hU
        exact nearest_du W HN HT kt xm kN ka kh kw HH HF
  · have kh : (((N % 2 : Nat) : Int) == 1) = false := eq_f (by omega)
    rw [if_neg (fun hh => h1 hh.1)] at hs
    rw [← hs] at HF
    by_cases xm : T - f < L
    · rw [if_pos xm] at hU; subst hU
      exact nearest_ln W HN HT kt xm kN ka kh HH HF
    · rw [if_neg xm] at hU; subst hU
      exact nearest_dn W HN HT kt xm kN ka kh HH HF

theorem pow_split2 (a b : Nat) (c : Nat) (h : a = b + c) : 2 ^ a = 2 ^ b * 2 ^ c := by rw [h, Nat.pow_add]

theorem halves_near (v : Nat) (n m : Bool) (E U : Int) (hv : W2 v) (e0 : -4096 ≤ E) (e1 : E ≤ 4096) (u0 : -4500 ≤ U) (u1 : U ≤ 5000) (hB : (Go.bitLen v : Int) + E ≤ U + 60) :
    ∃ (N : Nat) (lost : Bool), N < 4611686018427387904 ∧ pick N lost = near ((2 * v + m.toNat) * 2 ^ (E + 4999).toNat) (2 ^ (U + 5000).toNat) ∧
      ∀ W : World, Calls Try.prog 91 #[.agg #[.bool n, .int .u64 (hi v), .int .u64 (lo v), .int .i64 E, .bool m], .int .i64 U] W fun r W' => r = .returned (.tuple #[.int .u64 (N : Int), .bool lost]) ∧ Below W.heap.size W W' := by
  have hm : m.toNat ≤ 1 := by cases m <;> simp
  have hm1 : m.toNat = 1 ↔ m = true := by cases m <;> simp
  by_cases g : E < U
  · obtain ⟨j, hj⟩ : ∃ j : Nat, U - E - 1 = j := ⟨(U - E - 1).toNat, by omega⟩
    have hN : v / 2 ^ j < 2 ^ 61 := by
      rw [Nat.div_lt_iff_lt_mul (Nat.two_pow_pos j), ← Nat.pow_add]
      exact bl_lt (by omega)
    refine ⟨v / 2 ^ j, lostB v j || m, by omega, ?_, ?_⟩
    · rw [pow_split2 (U + 5000).toNat (j + 2) (E + 4999).toNat (by omega), near_scale _ _ _ (Nat.two_pow_pos _), near_halves v m.toNat j _ _ hm rfl rfl]
      unfold pick
      have : ((lostB v j || m) = true) = (v % 2 ^ j ≠ 0 ∨ m.toNat = 1) := by
        unfold lostB
        rw [hm1, Int.toNat_natCast]
        simp
      simp only [this]
    · intro W
      have k1 : IntKind.i64.wrap (U - E) = U - E := i64_id (by omega) (by omega)
      have k2 : IntKind.i64.wrap (U - E - 1) = U - E - 1 := i64_id (by omega) (by omega)
      have hr := fun W => right_n v (U - E - 1) W hv
      have el : lo (shrN v (U - E - 1)) = ((v / 2 ^ j : Nat) : Int) := by
        unfold shrN
        rw [hj, Int.toNat_natCast, lo_small (by omega)]
      rw [← el, ← hj]
      cases hl : lostB v (U - E - 1)
      · rw [hl] at hr
        exact halves_gf W (hide hr) g k1 k2
      · rw [hl] at hr
        exact halves_gt W (hide hr) g k1 k2
  · obtain ⟨k, hk⟩ : ∃ k : Nat, E - U = k := ⟨(E - U).toNat, by omega⟩
    have hbl : Go.bitLen v + k ≤ 60 := by omega
    have hvl := bl_lt (x := v) (k := Go.bitLen v) (Nat.le_refl _)
    have hv60 : v < 2 ^ 60 := bl_lt (by omega)
    have hN : (2 * v + m.toNat) * 2 ^ k < 2 ^ 61 := by
      have h1 : (2 * v + m.toNat) * 2 ^ k < 2 ^ (Go.bitLen v + 1) * 2 ^ k := Nat.mul_lt_mul_of_pos_right (by rw [Nat.pow_succ]; omega) (Nat.two_pow_pos k)
      rw [← Nat.pow_add] at h1
      exact Nat.lt_of_lt_of_le h1 (Nat.pow_le_pow_right (by omega) (by omega))
    refine ⟨(2 * v + m.toNat) * 2 ^ k, false, by omega, ?_, ?_⟩
    · rw [pow_split2 (U + 5000).toNat 1 (U + 4999).toNat (by omega), pow_split2 (E + 4999).toNat k (U + 4999).toNat (by omega), ← Nat.mul_assoc, near_scale _ _ _ (Nat.two_pow_pos _), Nat.pow_one, near_two]
      unfold pick
      simp
    · intro W
      have k1 : IntKind.i64.wrap (E - U) = E - U := i64_id (by omega) (by omega)
      have h1 := fun W => left_n v 1 W hv
      have es : shlN v 1 = 2 * v := by
        unfold shlN
        rw [show (1 : Int).toNat = 1 from rfl, Nat.mod_eq_of_lt (by omega)]
        omega
      rw [es] at h1
      have hw : W2 (2 * v + m.toNat) := by unfold W2; omega
      have h2 := fun W => left_n (2 * v + m.toNat) (E - U) W hw
      have es2 : shlN (2 * v + m.toNat) (E - U) = (2 * v + m.toNat) * 2 ^ k := by
        unfold shlN
        rw [hk, Int.toNat_natCast, Nat.mod_eq_of_lt (by omega)]
      have el : lo (shlN (2 * v + m.toNat) (E - U)) = (((2 * v + m.toNat) * 2 ^ k : Nat) : Int) := by
        rw [es2, lo_small (by omega)]
      rw [← el]
      cases m
      · exact halves_lf W (hide h1) (hide h2) g k1
      · have eh : hi (2 * v + Bool.toNat true) = hi (2 * v) := by unfold hi; simp; omega
        have el' : lo (2 * v + Bool.toNat true) = lo (2 * v) + 1 := by unfold lo; simp; omega
        rw [eh, el'] at h2
        exact halves_lt W (hide h1) (hide h2) g k1 (or_sum 1 (lo (2 * v)) 1 (lo_0 _) (lo_1 _) (by unfold lo; simp) (by omega) (by simp) (by omega))

end Go.Proofs.Ytepdmpcgkecjiaa
namespace Go.Proofs.Ytepdmpcgkecjiaa
open Go.RowKit
open Go.Proofs.Ytepdmpcgkecjiaa.W

/-- An exponent, brought near. -/
def cap (X : Int) : Int := if X < -4096 then -4096 else if 4096 < X then 4096 else X
theorem cap_in (X : Int) : -4096 ≤ cap X ∧ cap X ≤ 4096 := by unfold cap; split <;> (try split) <;> omega
/-- The least floats' last bit, 5000 bits up. -/
def lowN (f b : Int) : Nat := (5001 - b - f).toNat
/-- A code, no more than the infinite one's. -/
def lid (P Q c : Int) : Int := if (Q - 1) * P ≤ c then (Q - 1) * P else c
/-- The float of a code and a sign. -/
def fl (f P Q : Int) (n : Bool) (c : Int) : Int := put f P Q n (c / P) (c % P)
/-- The number (2 · v + m) · 2^(X - 1), 5000 bits up. -/
def num (v : Nat) (m : Bool) (X : Int) : Nat := (2 * v + m.toNat) * 2 ^ (X + 4999).toNat

theorem fl_eq {f P Q c x y : Int} (n : Bool) (h1 : c / P = x) (h2 : c % P = y) : fl f P Q n c = put f P Q n x y := by unfold fl; rw [h1, h2]

set_option maxHeartbeats 1000000 in
theorem float_known {w e f P Q b h l E : Int} (k : Kd w e f P Q b) (n m : Bool) (s : Nat) (U : Int) (hs : (s : Int) ≤ 2 * P) (hd : 1 - b - f < U → P ≤ (s : Int)) (hL : 1 - b - f ≤ U) (u1 : U ≤ 10000) (W : World) :
    Calls Try.prog 92 #[.agg #[.bool n, .int .u64 h, .int .u64 l, .int .i64 E, .bool m, .int .i64 w, .int .i64 f, .int .i64 (1 - b - f), .int .i64 (Q - 2 - b - f)], .int .u64 (s : Int), .int .i64 U] W fun r W' => r = .returned (.int .u64 (fl f P Q n (lid P Q ((U - (1 - b - f)) * P + (s : Int))))) ∧ Below W.heap.size W W' := by
  have HZ := hide (fun W => zero_any n k.wd W)
  have HI := hide (fun W => inf_any n k.wd W)
  have HC := fun (X S V c : Int) (s0 : 0 ≤ S) (s1 : S < 18446744073709551616) (hc : ClosedF f P Q b n X S V c) => hide (fun W => close_any (K := 1) W k s0 s1 (Or.inl ⟨rfl, hc⟩))
  unfold ClosedF at HC
  have g0 : 0 ≤ f := by rcases k with k | k <;> omega
  have g1 : f ≤ 63 := by rcases k with k | k <;> omega
  have hP : (2 : Int) ^ f.toNat = P := by rcases k with ⟨_, _, rfl, rfl, _⟩ | ⟨_, _, rfl, rfl, _⟩ <;> rfl
  have kd : (s : Int) / 2 ^ f.toNat = (s : Int) / P := by rw [hP]
  have ku : IntKind.i64.wrap (U + 1) = U + 1 := i64_id (by rcases k with k | k <;> omega) (by omega)
  rcases k with ⟨rfl, rfl, rfl, rfl, rfl, rfl⟩ | ⟨rfl, rfl, rfl, rfl, rfl, rfl⟩
  · unfold lid
    by_cases hb : 1 < (s : Int) / 8388608
    · by_cases g : 256 - 2 - 127 - 23 < U + 1
      · rw [if_pos (by omega), fl_eq n (x := 256 - 1) (y := 0) (by rfl) (by rfl)]
        exact float_bi W g0 g1 kd hb rfl ku (eq_f (by omega)) (dt g) HI
      · rw [if_neg (by omega), fl_eq n (x := U + 1 + 127 + 23) (y := 0) (by omega) (by omega)]
        exact float_bc W g0 g1 kd hb rfl ku (eq_f (by omega)) (df g) (HC (U + 1) _ _ 0 (by omega) (by omega) (Or.inr (Or.inl ⟨by omega, by omega, by omega, by omega, by rw [show (s : Int) / 2 % 8388608 = 0 by omega], rfl⟩)))
    · by_cases hz : (s : Int) = 0
      · rw [if_neg (by omega), fl_eq n (x := 0) (y := 0) (by omega) (by omega)]
        exact float_sz W g0 g1 kd hb (eq_t hz) HZ
      · by_cases g : 256 - 2 - 127 - 23 < U
        · rw [if_pos (by omega), fl_eq n (x := 256 - 1) (y := 0) (by rfl) (by rfl)]
          exact float_si W g0 g1 kd hb (eq_f hz) (dt g) HI
        · rw [if_neg (by omega)]
          by_cases ht : (s : Int) < 8388608
          · rw [fl_eq n (x := 0) (y := (s : Int) % 8388608) (by omega) (by omega)]
            exact float_sc W g0 g1 kd hb (eq_f hz) (df g) (HC U _ _ 0 (by omega) (by omega) (Or.inl ⟨ht, hz, by omega, rfl, rfl⟩))
          · rw [fl_eq n (x := U + 127 + 23) (y := (s : Int) % 8388608) (by omega) (by omega)]
            exact float_sc W g0 g1 kd hb (eq_f hz) (df g) (HC U _ _ 0 (by omega) (by omega) (Or.inr (Or.inl ⟨by omega, by omega, by omega, by omega, rfl, rfl⟩)))
  · unfold lid
    by_cases hb : 1 < (s : Int) / 4503599627370496
    · by_cases g : 2048 - 2 - 1023 - 52 < U + 1
      · rw [if_pos (by omega), fl_eq n (x := 2048 - 1) (y := 0) (by rfl) (by rfl)]
        exact float_bi W g0 g1 kd hb rfl ku (eq_f (by omega)) (dt g) HI
      · rw [if_neg (by omega), fl_eq n (x := U + 1 + 1023 + 52) (y := 0) (by omega) (by omega)]
        exact float_bc W g0 g1 kd hb rfl ku (eq_f (by omega)) (df g) (HC (U + 1) _ _ 0 (by omega) (by omega) (Or.inr (Or.inl ⟨by omega, by omega, by omega, by omega, by rw [show (s : Int) / 2 % 4503599627370496 = 0 by omega], rfl⟩)))
    · by_cases hz : (s : Int) = 0
      · rw [if_neg (by omega), fl_eq n (x := 0) (y := 0) (by omega) (by omega)]
        exact float_sz W g0 g1 kd hb (eq_t hz) HZ
      · by_cases g : 2048 - 2 - 1023 - 52 < U
        · rw [if_pos (by omega), fl_eq n (x := 2048 - 1) (y := 0) (by rfl) (by rfl)]
          exact float_si W g0 g1 kd hb (eq_f hz) (dt g) HI
        · rw [if_neg (by omega)]
          by_cases ht : (s : Int) < 4503599627370496
          · rw [fl_eq n (x := 0) (y := (s : Int) % 4503599627370496) (by omega) (by omega)]
            exact float_sc W g0 g1 kd hb (eq_f hz) (df g) (HC U _ _ 0 (by omega) (by omega) (Or.inl ⟨ht, hz, by omega, rfl, rfl⟩))
          · rw [fl_eq n (x := U + 1023 + 52) (y := (s : Int) % 4503599627370496) (by omega) (by omega)]
            exact float_sc W g0 g1 kd hb (eq_f hz) (df g) (HC U _ _ 0 (by omega) (by omega) (Or.inr (Or.inl ⟨by omega, by omega, by omega, by omega, rfl, rfl⟩)))

/-- Of another width all floats are 0. -/
theorem float_no {w e f P Q b h l E : Int} (k : Wd w e f P Q b) (hf : f = 0) (n m : Bool) (s : Nat) (U : Int) (u0 : -10000 ≤ U) (u1 : U ≤ 10000) (W : World) :
    Calls Try.prog 92 #[.agg #[.bool n, .int .u64 h, .int .u64 l, .int .i64 E, .bool m, .int .i64 w, .int .i64 0, .int .i64 0, .int .i64 0], .int .u64 (s : Int), .int .i64 U] W fun r W' => r = .returned (.int .u64 0) ∧ Below W.heap.size W W' := by
  have p0 : ∀ (x y : Int), put f P Q n x y = 0 := fun x y => by unfold put; rw [if_pos hf]
  have HZ := hide (fun W => zero_any n k W)
  have HI := hide (fun W => inf_any n k W)
  rw [p0] at HZ HI
  have HC := fun (X S : Int) => hide (fun W => close_no (K := 1) (X := X) (S := S) (n := n) W k (ne_f hf))
  have kd : (s : Int) / 2 ^ (0 : Int).toNat = (s : Int) := by simp
  have ku : IntKind.i64.wrap (U + 1) = U + 1 := i64_id (by omega) (by omega)
  by_cases hb : 1 < (s : Int)
  · by_cases g : 0 < U + 1
    · exact float_bi W (by omega) (by omega) kd hb rfl ku (eq_f (by omega)) (dt g) HI
    · exact float_bc W (by omega) (by omega) kd hb rfl ku (eq_f (by omega)) (df g) (HC _ _)
  · by_cases hz : (s : Int) = 0
    · exact float_sz W (by omega) (by omega) kd hb (eq_t hz) HZ
    · by_cases g : 0 < U
      · exact float_si W (by omega) (by omega) kd hb (eq_f hz) (dt g) HI
      · exact float_sc W (by omega) (by omega) kd hb (eq_f hz) (df g) (HC _ _)

theorem Kd.pow {w e f P Q b : Int} (k : Kd w e f P Q b) : P = ((2 ^ f.toNat : Nat) : Int) ∧ 0 ≤ f ∧ f ≤ 52 ∧ -1074 ≤ 1 - b - f ∧ 1 - b - f ≤ 0 ∧ 127 ≤ b ∧ b ≤ 1023 := by
  rcases k with ⟨_, _, rfl, rfl, _, rfl⟩ | ⟨_, _, rfl, rfl, _, rfl⟩ <;> exact ⟨rfl, by omega, by omega, by omega, by omega, by omega, by omega⟩

theorem num_len (v : Nat) (m : Bool) (E : Int) (h : ¬ (v = 0 ∧ m = false)) : Go.bitLen (num v m E) = (E + 4999).toNat + (Go.bitLen v + 1) := by
  have hm : m.toNat ≤ 1 := by cases m <;> simp
  have hne : 2 * v + m.toNat ≠ 0 := by cases m <;> simp at h ⊢ <;> omega
  unfold num
  rw [bl_shl _ _ hne, bl_two v m.toNat hm hne]

set_option maxHeartbeats 1000000 in
theorem nearest_known {w e f P Q b : Int} (v : Nat) (n m : Bool) (E : Int) (k : Kd w e f P Q b) (hv : W2 v) (e0 : -4096 ≤ E) (e1 : E ≤ 4096) (W : World) :
    Calls Try.prog 78 #[.agg #[.bool n, .int .u64 (hi v), .int .u64 (lo v), .int .i64 E, .bool m, .int .i64 w, .int .i64 f, .int .i64 (1 - b - f), .int .i64 (Q - 2 - b - f)]] W fun r W' => r = .returned (.int .u64 (fl f P Q n (lid P Q (code f.toNat (lowN f b) (num v m E) : Nat)))) ∧ Below W.heap.size W W' := by
  have HN := hide (fun W => isNought_any v E n m W)
  obtain ⟨hP, f0, f1, l0, l1, b0, b1⟩ := k.pow
  by_cases hz : v = 0 ∧ m = false
  · obtain ⟨rfl, rfl⟩ := hz
    have : num 0 false E = 0 := by unfold num; simp
    rw [this, code_zero]
    have hq : ¬ (Q - 1) * P ≤ ((0 : Nat) : Int) := by rcases k with ⟨_, _, _, rfl, rfl, _⟩ | ⟨_, _, _, rfl, rfl, _⟩ <;> omega
    unfold lid
    rw [if_neg hq, fl_eq n (x := 0) (y := 0) (by simp) (by simp)]
    exact nearest_z W HN (hide (fun W => zero_any n k.wd W))
  · have hNv : (decide (v = 0) && !m) = false := by cases m <;> simp at hz ⊢; exact hz
    rw [hNv] at HN
    have hbl : Go.bitLen v ≤ 128 := bitLen_128 hv
    have hl := num_len v m E hz
    have HT := hide (fun W => top_l (n := n) (m := m) W (hide (fun W => len_n v W hv)) (i64_id (x := E + (Go.bitLen v : Int)) (by omega) (by omega)) (i64_id (by omega) (by omega)))
    obtain ⟨U, hU⟩ : ∃ U : Int, U = if E + (Go.bitLen v : Int) - 1 - f < 1 - b - f then 1 - b - f else E + (Go.bitLen v : Int) - 1 - f := ⟨_, rfl⟩
    have hU1 : 1 - b - f ≤ U ∧ E + (Go.bitLen v : Int) - 1 - f ≤ U ∧ U ≤ 5000 := by rw [hU]; split <;> omega
    have hu : unitOf f.toNat (lowN f b) (num v m E) = (U + 5000).toNat := by
      unfold unitOf lowN
      rw [hl, hU]
      split <;> omega
    obtain ⟨N, lost, hN, hp, hH⟩ := halves_near v n m E U hv e0 e1 (by omega) (by omega) (by omega)
    have hup := unit_up f.toNat (lowN f b) (num v m E)
    have hdn := fun h => unit_dn (f := f.toNat) (L := lowN f b) (X := num v m E) h
    have hcode : ((code f.toNat (lowN f b) (num v m E) : Nat) : Int) = (U - (1 - b - f)) * P + (near (num v m E) (2 ^ (U + 5000).toNat) : Nat) := by
      unfold code
      rw [hu, hP, show (U - (1 - b - f)) = (((U + 5000).toNat - lowN f b : Nat) : Int) by unfold lowN; omega]
      simp
    rw [hu] at hup hdn
    change pick N lost = near (num v m E) _ at hp
    generalize hsg : near (num v m E) (2 ^ (U + 5000).toNat) = s at *
    rw [hcode]
    refine nearest_pick (T := E + (Go.bitLen v : Int) - 1) (U := U) (N := N) (s := s) (lost := lost) W HN HT (by omega) (by omega) f0 (by omega) hU hN hp (hide hH) (hide (fun W => float_known k n m s U ?_ ?_ hU1.1 (by omega) W))
    · rw [hP]; omega
    · intro hlt
      rw [hP]
      have := hdn (by unfold lowN; omega)
      omega

set_option maxHeartbeats 1000000 in
theorem nearest_no {w e f P Q b : Int} (v : Nat) (n m : Bool) (E : Int) (k : Wd w e f P Q b) (hf : f = 0) (hv : W2 v) (e0 : -4096 ≤ E) (e1 : E ≤ 4096) (W : World) :
    Calls Try.prog 78 #[.agg #[.bool n, .int .u64 (hi v), .int .u64 (lo v), .int .i64 E, .bool m, .int .i64 w, .int .i64 0, .int .i64 0, .int .i64 0]] W fun r W' => r = .returned (.int .u64 0) ∧ Below W.heap.size W W' := by
  have HN := hide (fun W => isNought_any v E n m W)
  by_cases hz : v = 0 ∧ m = false
  · obtain ⟨rfl, rfl⟩ := hz
    have p0 : put f P Q n 0 0 = 0 := by unfold put; rw [if_pos hf]
    have HZ := hide (fun W => zero_any n k W)
    rw [p0] at HZ
    exact nearest_z W HN HZ
  · have hNv : (decide (v = 0) && !m) = false := by cases m <;> simp at hz ⊢; exact hz
    rw [hNv] at HN
    have hbl : Go.bitLen v ≤ 128 := bitLen_128 hv
    have HT := hide (fun W => top_l (n := n) (m := m) W (hide (fun W => len_n v W hv)) (i64_id (x := E + (Go.bitLen v : Int)) (by omega) (by omega)) (i64_id (by omega) (by omega)))
    obtain ⟨U, hU⟩ : ∃ U : Int, U = if E + (Go.bitLen v : Int) - 1 - 0 < 0 then 0 else E + (Go.bitLen v : Int) - 1 - 0 := ⟨_, rfl⟩
    have hU1 : 0 ≤ U ∧ E + (Go.bitLen v : Int) - 1 ≤ U ∧ U ≤ 5000 := by rw [hU]; split <;> omega
    obtain ⟨N, lost, hN, hp, hH⟩ := halves_near v n m E U hv e0 e1 (by omega) (by omega) (by omega)
    exact nearest_pick (T := E + (Go.bitLen v : Int) - 1) (U := U) (N := N) (lost := lost) W HN HT (by omega) (by omega) (by omega) (by omega) hU hN rfl (hide hH) (hide (fun W => float_no k hf n m _ U (by omega) (by omega) W))

theorem floatsOf_known {w e f P Q b : Int} (k : Kd w e f P Q b) (W : World) :
    Calls Try.prog 77 #[.int .i64 w] W fun r W' => r = .returned (.agg #[.int .i64 w, .int .i64 f, .int .i64 (1 - b - f), .int .i64 (Q - 2 - b - f)]) ∧ Below W.heap.size W W' := by
  have HF := hide (fun W => fields_any k.wd W)
  have HM := hide (fun W => most_w false k.wd W)
  have hm : put f P Q false (Q - 2) (P - 1) = (Q - 2) * P + (P - 1) := put_no k.f0
  rw [hm] at HM
  have ho1 : Opened f P Q b (sg P Q 1) (1 / P % Q) (1 % P) false 1 (1 - b - f) 1 := by
    unfold Opened sg
    rcases k with ⟨rfl, rfl, rfl, rfl, rfl, rfl⟩ | ⟨rfl, rfl, rfl, rfl, rfl, rfl⟩ <;> simp
  have ho2 : Opened f P Q b (sg P Q ((Q - 2) * P + (P - 1))) (((Q - 2) * P + (P - 1)) / P % Q) (((Q - 2) * P + (P - 1)) % P) false 1 (Q - 2 - b - f) (2 * P - 1) := by
    unfold Opened sg
    rcases k with ⟨rfl, rfl, rfl, rfl, rfl, rfl⟩ | ⟨rfl, rfl, rfl, rfl, rfl, rfl⟩ <;> simp
  have hr : 0 ≤ (Q - 2) * P + (P - 1) ∧ (Q - 2) * P + (P - 1) < 18446744073709551616 := by
    rcases k with ⟨rfl, rfl, rfl, rfl, rfl, rfl⟩ | ⟨rfl, rfl, rfl, rfl, rfl, rfl⟩ <;> omega
  exact floatsOf_l W HF (hide (fun W => open_any 1 k.wd W (by omega) (by omega) ho1)) HM (hide (fun W => open_any _ k.wd W hr.1 hr.2 ho2))

theorem floatsOf_no {w e f P Q b : Int} (k : Wd w e f P Q b) (hf : f = 0) (W : World) :
    Calls Try.prog 77 #[.int .i64 w] W fun r W' => r = .returned (.agg #[.int .i64 w, .int .i64 0, .int .i64 0, .int .i64 0]) ∧ Below W.heap.size W W' := by
  have HF := hide (fun W => fields_any k W)
  have HM := hide (fun W => most_w false k W)
  have hm : put f P Q false (Q - 2) (P - 1) = 0 := by unfold put; rw [if_pos hf]
  rw [hm] at HM
  have ho : ∀ x, Opened f P Q b (sg P Q x) (x / P % Q) (x % P) false 0 0 0 := fun x => Or.inl ⟨hf, rfl, rfl, rfl, rfl⟩
  rw [hf] at HF
  exact floatsOf_l W HF (hide (fun W => open_any 1 k W (by omega) (by omega) (ho 1))) HM (hide (fun W => open_any 0 k W (by omega) (by omega) (ho 0)))

/-- Pack: the float of the number's code. -/
theorem pack_known {w e f P Q b : Int} (v : Nat) (n m : Bool) (X : Int) (k : Kd w e f P Q b) (hv : W2 v) (W : World) :
    Calls Try.prog 62 #[.int .i64 w, .bool n, .agg #[.int .u64 (hi v), .int .u64 (lo v)], .int .i64 X, .bool m] W fun r W' => r = .returned (.int .u64 (fl f P Q n (lid P Q (code f.toNat (lowN f b) (num v m (cap X)) : Nat)))) ∧ Below W.heap.size W W' := by
  obtain ⟨c0, c1⟩ := cap_in X
  have HO := hide (fun W => floatsOf_known k W)
  have HN := hide (fun W => nearest_known v n m (cap X) k hv c0 c1 W)
  by_cases h1 : X < -4096
  · have : cap X = -4096 := by unfold cap; rw [if_pos h1]
    rw [this] at HN ⊢
    exact pack_l W h1 HO HN
  · by_cases h2 : 4096 < X
    · have : cap X = 4096 := by unfold cap; rw [if_neg h1, if_pos h2]
      rw [this] at HN ⊢
      exact pack_h W h1 h2 HO HN
    · have : cap X = X := by unfold cap; rw [if_neg h1, if_neg h2]
      rw [this] at HN ⊢
      exact pack_m W h1 h2 HO HN
theorem pack_no {w e f P Q b : Int} (v : Nat) (n m : Bool) (X : Int) (k : Wd w e f P Q b) (hf : f = 0) (hv : W2 v) (W : World) :
    Calls Try.prog 62 #[.int .i64 w, .bool n, .agg #[.int .u64 (hi v), .int .u64 (lo v)], .int .i64 X, .bool m] W fun r W' => r = .returned (.int .u64 0) ∧ Below W.heap.size W W' := by
  obtain ⟨c0, c1⟩ := cap_in X
  have HO := hide (fun W => floatsOf_no k hf W)
  have HN := hide (fun W => nearest_no v n m (cap X) k hf hv c0 c1 W)
  by_cases h1 : X < -4096
  · have : cap X = -4096 := by unfold cap; rw [if_pos h1]
    rw [this] at HN
    exact pack_l W h1 HO HN
  · by_cases h2 : 4096 < X
    · have : cap X = 4096 := by unfold cap; rw [if_neg h1, if_pos h2]
      rw [this] at HN
      exact pack_h W h1 h2 HO HN
    · have : cap X = X := by unfold cap; rw [if_neg h1, if_neg h2]
      rw [this] at HN
      exact pack_m W h1 h2 HO HN

end Go.Proofs.Ytepdmpcgkecjiaa
namespace Go.Proofs.Ytepdmpcgkecjiaa
open Go.RowKit
open Go.Proofs.Ytepdmpcgkecjiaa.W

set_option maxRecDepth 100000 in
set_option maxHeartbeats 1000000 in
theorem narrow_zero {w K X S V : Int} {n : Bool} (W : World) (k0 : (K == 0) = true) (HC : Hid (∀ W, Calls Try.prog 74 #[.int .i64 w, .bool n] W fun r W' => r = .returned (.int .u64 V) ∧ Below W.heap.size W W')) :
    Calls Try.prog 60 #[.int .i64 w, .agg #[.bool n, .int .i64 K, .int .i64 X, .int .u64 S]] W fun r W' => r = .returned (.int .u64 V) ∧ Below W.heap.size W W' := by
  go_enter Try.func60, Try.ntmps60
  go_wp2_with fail
  refine (unhide HC _).mono ?_
  rintro _ w1 ⟨rfl, hb⟩
  have HB := hide (bthen (below1 _ _) hb)
  clear hb
  go_wp2_with fail
  go_ret
  exact ⟨rfl, unhide HB⟩
set_option maxRecDepth 100000 in
set_option maxHeartbeats 1000000 in
theorem narrow_inf {w K X S V : Int} {n : Bool} (W : World) (k0 : (K == 0) = false) (k1 : (K == 1) = false) (k2 : (K == 2) = true) (HC : Hid (∀ W, Calls Try.prog 75 #[.int .i64 w, .bool n] W fun r W' => r = .returned (.int .u64 V) ∧ Below W.heap.size W W')) :
    Calls Try.prog 60 #[.int .i64 w, .agg #[.bool n, .int .i64 K, .int .i64 X, .int .u64 S]] W fun r W' => r = .returned (.int .u64 V) ∧ Below W.heap.size W W' := by
  go_enter Try.func60, Try.ntmps60
  go_wp2_with fail
  refine (unhide HC _).mono ?_
  rintro _ w1 ⟨rfl, hb⟩
  have HB := hide (bthen (below1 _ _) hb)
  clear hb
  go_wp2_with fail
  go_ret
  exact ⟨rfl, unhide HB⟩
set_option maxRecDepth 100000 in
set_option maxHeartbeats 1000000 in
theorem narrow_nan {w K X S V : Int} {n : Bool} (W : World) (k0 : (K == 0) = false) (k1 : (K == 1) = false) (k2 : (K == 2) = false) (k3 : (K == 3) = true) (HC : Hid (∀ W, Calls Try.prog 17 #[.int .i64 w] W fun r W' => r = .returned (.int .u64 V) ∧ Below W.heap.size W W')) :
    Calls Try.prog 60 #[.int .i64 w, .agg #[.bool n, .int .i64 K, .int .i64 X, .int .u64 S]] W fun r W' => r = .returned (.int .u64 V) ∧ Below W.heap.size W W' := by
  go_enter Try.func60, Try.ntmps60
  go_wp2_with fail
  refine (unhide HC _).mono ?_
  rintro _ w1 ⟨rfl, hb⟩
  have HB := hide (bthen (below1 _ _) hb)
  clear hb
  go_wp2_with fail
  go_ret
  exact ⟨rfl, unhide HB⟩
set_option maxRecDepth 100000 in
set_option maxHeartbeats 1000000 in
theorem narrow_oth {w K X S : Int} {n : Bool} (W : World) (k0 : (K == 0) = false) (k1 : (K == 1) = false) (k2 : (K == 2) = false) (k3 : (K == 3) = false) :
    Calls Try.prog 60 #[.int .i64 w, .agg #[.bool n, .int .i64 K, .int .i64 X, .int .u64 S]] W fun r W' => r = .returned (.int .u64 0) ∧ Below W.heap.size W W' := by
  go_enter Try.func60, Try.ntmps60
  go_wp2_with fail
  go_ret
  exact ⟨rfl, below1 _ _⟩
set_option maxRecDepth 100000 in
set_option maxHeartbeats 1000000 in
theorem narrow_fin {w K X S h l V : Int} {n : Bool} (W : World) (k0 : (K == 0) = false) (k1 : (K == 1) = true) (HO : Hid (∀ W, Calls Try.prog 63 #[.int .u64 S] W fun r W' => r = .returned (.agg #[.int .u64 h, .int .u64 l]) ∧ Below W.heap.size W W')) (HP : Hid (∀ W, Calls Try.prog 62 #[.int .i64 w, .bool n, .agg #[.int .u64 h, .int .u64 l], .int .i64 X, .bool false] W fun r W' => r = .returned (.int .u64 V) ∧ Below W.heap.size W W')) :
    Calls Try.prog 60 #[.int .i64 w, .agg #[.bool n, .int .i64 K, .int .i64 X, .int .u64 S]] W fun r W' => r = .returned (.int .u64 V) ∧ Below W.heap.size W W' := by
  go_enter Try.func60, Try.ntmps60
  go_wp2_with fail
  have HB := hide ((below1 W (.cells #[.bool n, .int .i64 K, .int .i64 X, .int .u64 S] 36)).drew)
  have HA := hide ((at4_new W (.bool n) (.int .i64 K) (.int .i64 X) (.int .u64 S) 36).below ((Below.refl _ _).drew))
  refine wp_region_held_drew (S := fun w' => w'.cell? ⟨W.heap.size, 0, none⟩ = some (.bool n) ∧ w'.cell? ⟨W.heap.size, 1, none⟩ = some (.int .i64 K) ∧ w'.cell? ⟨W.heap.size, 2, none⟩ = some (.int .i64 X) ∧ w'.cell? ⟨W.heap.size, 3, none⟩ = some (.int .u64 S)) (by kernel_rfl) ?_ (fun hHeld => ?_)
  · (try dsimp only)
    exact unhide HA
  refine lst0 10 (by kernel_rfl) ?_
  refine tkH 0 15 1 ?v0 rfl (by kernel_rfl) (by kernel_rfl) (fun _ _ _ h => h) (by assumption) (Or.inl ⟨by rfl, ?y0⟩) ?_
  case y0 => ((intro w hSw; (try dsimp only at hSw); go_simp) <;> with_reducible rfl)
  (try simp only [Act.put, List.setIfInBounds_toArray, List.set_cons_zero, List.set_cons_succ])
  refine tkH 1 16 3 ?v1 rfl (by kernel_rfl) (by kernel_rfl) (fun _ _ _ h => h) (by assumption) (Or.inl ⟨by rfl, ?y1⟩) ?_
  case y1 => ((intro w hSw; (try dsimp only at hSw); go_simp) <;> with_reducible rfl)
  (try simp only [Act.put, List.setIfInBounds_toArray, List.set_cons_zero, List.set_cons_succ])
  refine tkH 2 17 7 ?v2 rfl (by kernel_rfl) (by kernel_rfl) (fun _ _ _ h => h) (by assumption) (Or.inl ⟨by rfl, ?y2⟩) ?_
  case y2 => ((intro w hSw; (try dsimp only at hSw); go_simp) <;> with_reducible rfl)
  (try simp only [Act.put, List.setIfInBounds_toArray, List.set_cons_zero, List.set_cons_succ])
  refine tkH 3 18 15 ?v3 rfl (by kernel_rfl) (by kernel_rfl) (fun _ _ _ h => h) (by assumption) (Or.inl ⟨by rfl, ?y3⟩) ?_
  case y3 => ((intro w hSw; (try dsimp only at hSw); go_simp) <;> with_reducible rfl)
  (try simp only [Act.put, List.setIfInBounds_toArray, List.set_cons_zero, List.set_cons_succ])
  refine tkH 4 19 31 ?v4 rfl (by kernel_rfl) (by kernel_rfl) (fun _ _ _ h => h) (by assumption) (Or.inl ⟨by rfl, ?y4⟩) ?_
  case y4 => ((intro w hSw; (try dsimp only at hSw); go_simp) <;> with_reducible rfl)
  (try simp only [Act.put, List.setIfInBounds_toArray, List.set_cons_zero, List.set_cons_succ])
  refine tkH 6 21 95 ?v6 rfl (by kernel_rfl) (by kernel_rfl) (fun _ _ _ h => h) (by assumption) (Or.inl ⟨by rfl, ?y6⟩) ?_
  case y6 => ((intro w hSw; (try dsimp only at hSw); go_simp) <;> with_reducible rfl)
  (try simp only [Act.put, List.setIfInBounds_toArray, List.set_cons_zero, List.set_cons_succ])
  refine tkH 7 22 223 ?v7 rfl (by kernel_rfl) (by kernel_rfl) (fun _ _ _ h => h) (by assumption) (Or.inl ⟨by rfl, ?y7⟩) ?_
  case y7 => ((intro w hSw; (try dsimp only at hSw); go_simp) <;> with_reducible rfl)
  (try simp only [Act.put, List.setIfInBounds_toArray, List.set_cons_zero, List.set_cons_succ])
  refine rdH 5 255 rfl (by kernel_rfl) (by kernel_rfl) (fun Kk hKk => ?_)
  go_simp
  refine (unhide HO _).mono ?_
  rintro _ w1 ⟨rfl, hbl⟩
  have HB := hide (bthen (unhide HB) hbl)
  have HA := hide ((unhide HA).below hbl)
  clear hbl
  (try go_wp2_with fail)
  refine hKk.out _ _ ?_ (fun hHeld => ?_)
  · (try dsimp only)
    exact unhide HA
  clear hKk Kk
  (try simp only [List.setIfInBounds_toArray, List.set_cons_zero, List.set_cons_succ])
  refine rdH 8 511 rfl (by kernel_rfl) (by kernel_rfl) (fun Kk hKk => ?_)
  go_simp
  refine (unhide HP _).mono ?_
  rintro _ w2 ⟨rfl, hbl⟩
  have HB := hide (bthen (unhide HB) hbl)
  have HA := hide ((unhide HA).below hbl)
  clear hbl
  (try go_wp2_with fail)
  refine hKk.out _ _ ?_ (fun hHeld => ?_)
  · (try dsimp only)
    exact unhide HA
  clear hKk Kk
  (try simp only [List.setIfInBounds_toArray, List.set_cons_zero, List.set_cons_succ])
  refine tkH 9 4 1023 ?v9 rfl (by kernel_rfl) (by kernel_rfl) (fun _ _ _ h => h) (by assumption) (Or.inl ⟨by rfl, ?y9⟩) ?_
  case y9 => ((intro w hSw; (try dsimp only at hSw); go_simp) <;> with_reducible rfl)
  (try simp only [Act.put, List.setIfInBounds_toArray, List.set_cons_zero, List.set_cons_succ])
  refine wpAnyH_done (by kernel_rfl) ?_ _
  go_wp2
  go_ret
  exact ⟨rfl, unhide HB⟩

theorem kd_64 : Kd 64 11 52 4503599627370496 2048 1023 := Or.inr ⟨rfl, rfl, rfl, rfl, rfl, rfl⟩
end Go.Proofs.Ytepdmpcgkecjiaa
namespace Go.Proofs.Ytepdmpcgkecjiaa
open Go.RowKit
open Go.Proofs.Ytepdmpcgkecjiaa.W

theorem num_exact (s j : Nat) (E : Int) (h : -4999 ≤ E - j) : num (s * 2 ^ j) false (E - j) = s * 2 ^ (E + 5000).toNat := by
  unfold num
  rw [show 2 * (s * 2 ^ j) + Bool.toNat false = s * 2 ^ j * 2 ^ 1 by simp; omega, Nat.mul_assoc, Nat.mul_assoc, ← Nat.pow_add, ← Nat.pow_add, show j + (1 + (E - j + 4999).toNat) = (E + 5000).toNat by omega]
theorem num_plain (s : Nat) (E : Int) (h : -4999 ≤ E) : num s false E = s * 2 ^ (E + 5000).toNat := by
  have := num_exact s 0 E (by omega)
  simpa using this

theorem cap_id {X : Int} (h0 : -4096 ≤ X) (h1 : X ≤ 4096) : cap X = X := by
  unfold cap
  rw [if_neg (by omega), if_neg (by omega)]

theorem lid_in {w e f P Q b : Int} (k : Kd w e f P Q b) (c : Nat) : 0 ≤ lid P Q c ∧ lid P Q c ≤ (Q - 1) * P := by
  have : 0 ≤ (Q - 1) * P := by rcases k with ⟨-, -, -, rfl, rfl, -⟩ | ⟨-, -, -, rfl, rfl, -⟩ <;> omega
  unfold lid
  generalize (Q - 1) * P = I at *
  split <;> omega

end Go.Proofs.Ytepdmpcgkecjiaa
namespace Go.Proofs.Ytepdmpcgkecjiaa
open Go.RowKit
open Go.Proofs.Ytepdmpcgkecjiaa.W

theorem small_w2 {x : Int} (x0 : 0 ≤ x) (x1 : x < 18446744073709551616) : W2 x.toNat := by unfold W2; omega
/-- What parts are narrowed to. -/
def narrowN (f P Q b : Int) (n : Bool) (K X S : Int) : Int :=
  if K = 0 then put f P Q n 0 0 else if K = 1 then fl f P Q n (lid P Q (code f.toNat (lowN f b) (num S.toNat false (cap X)) : Nat)) else if K = 2 then put f P Q n (Q - 1) 0 else if K = 3 then put f P Q false (Q - 1) (P / 2) else 0

theorem narrow_any {w e f P Q b : Int} (k : Kd w e f P Q b) (n : Bool) (K X S : Int) (s0 : 0 ≤ S) (s1 : S < 18446744073709551616) (W : World) :
    Calls Try.prog 60 #[.int .i64 w, .agg #[.bool n, .int .i64 K, .int .i64 X, .int .u64 S]] W fun r W' => r = .returned (.int .u64 (narrowN f P Q b n K X S)) ∧ Below W.heap.size W W' := by
  unfold narrowN
  by_cases k0 : K = 0
  · rw [if_pos k0]
    exact narrow_zero W (eq_t k0) (hide (fun W => zero_any n k.wd W))
  · rw [if_neg k0]
    by_cases k1 : K = 1
    · rw [if_pos k1]
      exact narrow_fin W (eq_f k0) (eq_t k1) (hide (fun W => of_n S W s0 s1)) (hide (fun W => pack_known S.toNat n false X k (small_w2 s0 s1) W))
    · rw [if_neg k1]
      by_cases k2 : K = 2
      · rw [if_pos k2]
        exact narrow_inf W (eq_f k0) (eq_f k1) (eq_t k2) (hide (fun W => inf_any n k.wd W))
      · rw [if_neg k2]
        by_cases k3 : K = 3
        · rw [if_pos k3]
          exact narrow_nan W (eq_f k0) (eq_f k1) (eq_f k2) (eq_t k3) (hide (fun W => nan_any k.wd W))
        · rw [if_neg k3]
          exact narrow_oth W (eq_f k0) (eq_f k1) (eq_f k2) (eq_f k3)
theorem narrow_no {w e f P Q b : Int} (k : Wd w e f P Q b) (hf : f = 0) (n : Bool) (K X S : Int) (s0 : 0 ≤ S) (s1 : S < 18446744073709551616) (W : World) :
    Calls Try.prog 60 #[.int .i64 w, .agg #[.bool n, .int .i64 K, .int .i64 X, .int .u64 S]] W fun r W' => r = .returned (.int .u64 0) ∧ Below W.heap.size W W' := by
  have p0 : ∀ (n : Bool) (x y : Int), put f P Q n x y = 0 := fun n x y => by unfold put; rw [if_pos hf]
  by_cases k0 : K = 0
  · have h := fun W => zero_any n k W
    rw [p0] at h
    exact narrow_zero W (eq_t k0) (hide h)
  · by_cases k1 : K = 1
    · exact narrow_fin W (eq_f k0) (eq_t k1) (hide (fun W => of_n S W s0 s1)) (hide (fun W => pack_no S.toNat n false X k hf (small_w2 s0 s1) W))
    · by_cases k2 : K = 2
      · have h := fun W => inf_any n k W
        rw [p0] at h
        exact narrow_inf W (eq_f k0) (eq_f k1) (eq_t k2) (hide h)
      · by_cases k3 : K = 3
        · have h := fun W => nan_any k W
          rw [p0] at h
          exact narrow_nan W (eq_f k0) (eq_f k1) (eq_f k2) (eq_t k3) (hide h)
        · exact narrow_oth W (eq_f k0) (eq_f k1) (eq_f k2) (eq_f k3)
end Go.Proofs.Ytepdmpcgkecjiaa
namespace Go.Proofs.Ytepdmpcgkecjiaa
open Go.RowKit
open Go.Proofs.Ytepdmpcgkecjiaa.W

/-- The number of a float's parts, 5000 bits up. -/
def mag (X S : Int) : Nat := S.toNat * 2 ^ (X + 5000).toNat
/-- The float that is nearest to a number. -/
def rd (f P Q b : Int) (n : Bool) (M : Nat) : Int := fl f P Q n (lid P Q (code f.toNat (lowN f b) M : Nat))
/-- The sum of two floats that are taken apart. -/
def addP (f P Q b : Int) (n1 : Bool) (K1 : Int) (M1 : Nat) (n2 : Bool) (K2 : Int) (M2 : Nat) : Int :=
  if K1 = 3 ∨ K2 = 3 ∨ (K1 = 2 ∧ K2 = 2 ∧ n1 ≠ n2) then put f P Q false (Q - 1) (P / 2)
  else if K1 = 2 then put f P Q n1 (Q - 1) 0
  else if K2 = 2 then put f P Q n2 (Q - 1) 0
  else if n1 = n2 then rd f P Q b n1 (M1 + M2)
  else if M1 = M2 then put f P Q false 0 0
  else if M1 < M2 then rd f P Q b n2 (M2 - M1)
  else rd f P Q b n1 (M1 - M2)
/-- What parts of a float there are. -/
def Prt (f P Q b K X S : Int) : Prop :=
  (K = 3 ∧ X = 0 ∧ S = 0) ∨ (K = 2 ∧ X = 0 ∧ S = 0) ∨ (K = 0 ∧ X = 0 ∧ S = 0) ∨
  (K = 1 ∧ 1 - b - f ≤ X ∧ X ≤ Q - 2 - b - f ∧ 0 < S ∧ S < 2 * P ∧ (1 - b - f < X → P ≤ S))

theorem opened_prt {w e f P Q b x y X S K : Int} {n N : Bool} (k : Kd w e f P Q b) (ho : Opened f P Q b n x y N K X S) (x0 : 0 ≤ x) (x1 : x < Q) (y0 : 0 ≤ y) (y1 : y < P) : Prt f P Q b K X S := by
  have hf := k.f0
  unfold Prt
  rcases ho with ⟨h, _⟩ | ⟨_, _, _, _, rfl, rfl, rfl⟩ | ⟨_, _, _, _, rfl, rfl, rfl⟩ | ⟨_, h1, h2, _, rfl, rfl, rfl⟩ | ⟨_, h1, h2, h3, _, rfl, rfl, rfl⟩ | ⟨_, h1, h2, h3, _, rfl, rfl, rfl⟩
  · exact absurd h hf
  · exact Or.inl ⟨rfl, rfl, rfl⟩
  · exact Or.inr (Or.inl ⟨rfl, rfl, rfl⟩)
  · refine Or.inr (Or.inr (Or.inr ⟨rfl, by omega, by omega, by omega, by omega, fun _ => by omega⟩))
  · have : 2 ≤ Q ∧ 1 ≤ P := by rcases k with k | k <;> omega
    refine Or.inr (Or.inr (Or.inr ⟨rfl, by omega, ?_, by omega, by omega, fun h => by omega⟩))
    rcases k with k | k <;> omega
  · exact Or.inr (Or.inr (Or.inl ⟨rfl, rfl, rfl⟩))

theorem Prt.in {w e f P Q b K X S : Int} (k : Kd w e f P Q b) (h : Prt f P Q b K X S) : -1200 ≤ X ∧ X ≤ 1100 ∧ 0 ≤ S ∧ S < 2 * P ∧ S < 9007199254740992 := by
  unfold Prt at h
  rcases k with ⟨-, -, rfl, rfl, rfl, rfl⟩ | ⟨-, -, rfl, rfl, rfl, rfl⟩ <;> omega
theorem Prt.mag0 {f P Q b K X S : Int} (h : Prt f P Q b K X S) (hK : K ≠ 1) : mag X S = 0 := by
  have : S = 0 := by
    unfold Prt at h
    omega
  subst this
  exact Nat.zero_mul _
theorem Prt.mag1 {f P Q b X S : Int} (h : Prt f P Q b 1 X S) : 0 < mag X S := by
  have : 0 < S := by
    unfold Prt at h
    omega
  exact Nat.mul_pos (by omega) (Nat.two_pow_pos _)
theorem num_mag {X : Int} (S : Int) (h0 : -1200 ≤ X) (h1 : X ≤ 1100) : num S.toNat false (cap X) = mag X S := by
  rw [cap_id (by omega) (by omega), num_plain _ _ (by omega)]
  rfl
theorem narrow_rd {w e f P Q b K X S : Int} (k : Kd w e f P Q b) (n : Bool) (h : Prt f P Q b K X S) :
    narrowN f P Q b n K X S = if K = 0 then put f P Q n 0 0 else if K = 1 then rd f P Q b n (mag X S) else if K = 2 then put f P Q n (Q - 1) 0 else put f P Q false (Q - 1) (P / 2) := by
  obtain ⟨a, c, _⟩ := h.in k
  unfold narrowN rd
  rw [num_mag S a c]
  have hK : K = 0 ∨ K = 1 ∨ K = 2 ∨ K = 3 := by unfold Prt at h; omega
  rcases hK with rfl | rfl | rfl | rfl <;> simp

theorem rd_zero {w e f P Q b : Int} (k : Kd w e f P Q b) (n : Bool) : rd f P Q b n 0 = put f P Q n 0 0 := by
  unfold rd
  have := k.pos
  have hq : ¬ (Q - 1) * P ≤ 0 := by
    have := Int.mul_pos (show 0 < Q - 1 by omega) (show 0 < P by omega)
    omega
  rw [code_zero]
  unfold lid fl
  rw [if_neg (show ¬ (Q - 1) * P ≤ ((0 : Nat) : Int) from hq)]
  simp

theorem pow_int {f P : Int} (h : P = ((2 ^ f.toNat : Nat) : Int)) {S : Int} (s0 : 0 ≤ S) (s1 : S < 2 * P) : S.toNat < 2 ^ (f.toNat + 1) := by
  rw [Nat.pow_succ]
  omega

/-- The lesser of two whose exponents lie far apart changes nothing. -/
theorem add_far {w e f P Q b X1 S1 X2 S2 : Int} (k : Kd w e f P Q b) (n1 n2 : Bool) (h1 : Prt f P Q b 1 X1 S1) (h2 : Prt f P Q b 1 X2 S2) (hd : 64 < X1 - X2) :
    addP f P Q b n1 1 (mag X1 S1) n2 1 (mag X2 S2) = rd f P Q b n1 (mag X1 S1) := by
  obtain ⟨hP, f0, f1, l0, l1, b0, b1⟩ := k.pow
  have g1 : 1 - b - f ≤ X1 ∧ X1 ≤ Q - 2 - b - f ∧ 0 < S1 ∧ S1 < 2 * P ∧ (1 - b - f < X1 → P ≤ S1) := by unfold Prt at h1; omega
  have g2 : 1 - b - f ≤ X2 ∧ X2 ≤ Q - 2 - b - f ∧ 0 < S2 ∧ S2 < 2 * P ∧ (1 - b - f < X2 → P ≤ S2) := by unfold Prt at h2; omega
  obtain ⟨a1, a2, a3, a4, a5⟩ := g1
  obtain ⟨c1, c2, c3, c4, c5⟩ := g2
  have hS1 := pow_int hP (by omega) a4
  have hS2 := pow_int hP (by omega) c4
  have hs1 : 2 ^ f.toNat ≤ S1.toNat := by have := a5 (by omega); omega
  have hr : 4 * mag X2 S2 < 2 ^ (X1 + 5000).toNat := by
    unfold mag
    have h3 : S2.toNat * 2 ^ (X2 + 5000).toNat < 2 ^ (f.toNat + 1) * 2 ^ (X2 + 5000).toNat := Nat.mul_lt_mul_of_pos_right hS2 (Nat.two_pow_pos _)
    rw [← Nat.pow_add] at h3
    have h4 : 2 ^ 2 * 2 ^ (f.toNat + 1 + (X2 + 5000).toNat) ≤ 2 ^ (X1 + 5000).toNat := by
      rw [← Nat.pow_add]
      exact Nat.pow_le_pow_right (by omega) (by omega)
    omega
  have hL : lowN f b < (X1 + 5000).toNat := by unfold lowN; omega
  have hlt : mag X2 S2 < mag X1 S1 := by
    have : 1 * 2 ^ (X1 + 5000).toNat ≤ S1.toNat * 2 ^ (X1 + 5000).toNat := Nat.mul_le_mul_right _ (by omega)
    have e : mag X1 S1 = S1.toNat * 2 ^ (X1 + 5000).toNat := rfl
    omega
  unfold addP
  rw [if_neg (by omega), if_neg (by omega), if_neg (by omega)]
  unfold rd
  by_cases hn : n1 = n2
  · rw [if_pos hn]
    have := code_far_up f.toNat (lowN f b) S1.toNat (X1 + 5000).toNat (mag X2 S2) hS1 hs1 hL hr
    rw [show mag X1 S1 = S1.toNat * 2 ^ (X1 + 5000).toNat from rfl, this]
  · rw [if_neg hn, if_neg (by omega), if_neg (by omega)]
    have := code_far_dn f.toNat (lowN f b) S1.toNat (X1 + 5000).toNat (mag X2 S2) hS1 hs1 hL hr
    rw [show mag X1 S1 = S1.toNat * 2 ^ (X1 + 5000).toNat from rfl, this]

theorem add_comm {f P Q b : Int} (n1 n2 : Bool) (K1 K2 : Int) (M1 M2 : Nat) : addP f P Q b n1 K1 M1 n2 K2 M2 = addP f P Q b n2 K2 M2 n1 K1 M1 := by
  unfold addP
  by_cases h3 : K1 = 3 ∨ K2 = 3 ∨ (K1 = 2 ∧ K2 = 2 ∧ n1 ≠ n2)
  · rw [if_pos h3, if_pos (by
      rcases h3 with h | h | ⟨h1, h2, h⟩
      · exact Or.inr (Or.inl h)
      · exact Or.inl h
      · exact Or.inr (Or.inr ⟨h2, h1, fun he => h he.symm⟩))]
  · have h3' : ¬ (K2 = 3 ∨ K1 = 3 ∨ (K2 = 2 ∧ K1 = 2 ∧ n2 ≠ n1)) := fun h => h3 (by
      rcases h with h | h | ⟨h1, h2, h⟩
      · exact Or.inr (Or.inl h)
      · exact Or.inl h
      · exact Or.inr (Or.inr ⟨h2, h1, fun he => h he.symm⟩))
    rw [if_neg h3, if_neg h3']
    by_cases ka : K1 = 2
    · rw [if_pos ka]
      by_cases kb : K2 = 2
      · rw [if_pos kb]
        have : n1 = n2 := Decidable.byContradiction fun hn => h3 (Or.inr (Or.inr ⟨ka, kb, hn⟩))
        rw [this]
      · rw [if_neg kb, if_pos ka]
    · rw [if_neg ka]
      by_cases kb : K2 = 2
      · rw [if_pos kb, if_pos kb]
      · rw [if_neg kb, if_neg kb, if_neg ka]
        by_cases hn : n1 = n2
        · subst hn
          rw [if_pos rfl, if_pos rfl, Nat.add_comm]
        · rw [if_neg hn, if_neg (fun h : n2 = n1 => hn h.symm)]
          by_cases hM : M1 = M2
          · rw [if_pos hM, if_pos hM.symm]
          · rw [if_neg hM, if_neg (fun h : M2 = M1 => hM h.symm)]
            by_cases hl : M1 < M2
            · rw [if_pos hl, if_neg (by omega)]
            · rw [if_neg hl, if_pos (by omega)]

/-- The greater one, moved up, is no more than 128 bits long; both at the lesser one's exponent. -/
theorem al_mag {X1 S1 X2 : Int} (h0 : -1200 ≤ X2) (h : X2 ≤ X1) : S1.toNat * 2 ^ (X1 - X2).toNat * 2 ^ (X2 + 5000).toNat = mag X1 S1 := by
  unfold mag
  rw [Nat.mul_assoc, ← Nat.pow_add, show (X1 - X2).toNat + (X2 + 5000).toNat = (X1 + 5000).toNat by omega]
theorem al_small {S1 : Int} {d : Int} (s0 : 0 ≤ S1) (s1 : S1 < 9007199254740992) (d1 : d ≤ 64) : S1.toNat * 2 ^ d.toNat < 166153499473114484112975882535043072 := by
  have h1 : 2 ^ d.toNat ≤ 2 ^ 64 := Nat.pow_le_pow_right (by omega) (by omega)
  have h2 : S1.toNat * 2 ^ d.toNat ≤ S1.toNat * 2 ^ 64 := Nat.mul_le_mul_left _ h1
  omega
theorem shl_al {S1 : Int} {d : Int} (s0 : 0 ≤ S1) (s1 : S1 < 9007199254740992) (d1 : d ≤ 64) : shlN S1.toNat d = S1.toNat * 2 ^ d.toNat := by
  have := al_small s0 s1 d1
  unfold shlN
  exact Nat.mod_eq_of_lt (by omega)
theorem pack_at {w e f P Q b E : Int} (k : Kd w e f P Q b) (n : Bool) (v : Nat) (hv : W2 v) (h0 : -1200 ≤ E) (h1 : E ≤ 1100) (W : World) :
    Calls Try.prog 62 #[.int .i64 w, .bool n, .agg #[.int .u64 (hi v), .int .u64 (lo v)], .int .i64 E, .bool false] W fun r W' => r = .returned (.int .u64 (rd f P Q b n (v * 2 ^ (E + 5000).toNat))) ∧ Below W.heap.size W W' := by
  have := pack_known v n false E k hv W
  rw [cap_id (by omega) (by omega), num_plain _ _ (by omega)] at this
  exact this

/-- Both at one exponent: their sum, rounded. -/
theorem aligned_any {w e f P Q b E : Int} (k : Kd w e f P Q b) (n1 n2 : Bool) (v u : Nat) (hv : v < 166153499473114484112975882535043072) (hu : u < 166153499473114484112975882535043072) (h0 : -1200 ≤ E) (h1 : E ≤ 1100) (W : World) :
    Calls Try.prog 87 #[.int .i64 w, .bool n1, .agg #[.int .u64 (hi v), .int .u64 (lo v)], .bool n2, .agg #[.int .u64 (hi u), .int .u64 (lo u)], .int .i64 E] W fun r W' => r = .returned (.int .u64 (addP f P Q b n1 1 (v * 2 ^ (E + 5000).toNat) n2 1 (u * 2 ^ (E + 5000).toNat))) ∧ Below W.heap.size W W' := by
  have hp := Nat.two_pow_pos (E + 5000).toNat
  unfold addP
  rw [if_neg (by omega), if_neg (by omega), if_neg (by omega)]
  by_cases hn : n1 = n2
  · rw [if_pos hn, ← Nat.add_mul]
    have ha := fun W => add_n v u W
    rw [show addN v u = v + u from Nat.mod_eq_of_lt (by omega)] at ha
    exact aligned_same W (by simp [hn]) (hide ha) (hide (fun W => pack_at k n1 (v + u) (by unfold W2; omega) h0 h1 W))
  · rw [if_neg hn]
    have hn' : (n1 == n2) = false := by simp [hn]
    have hc := fun W => cmp_n v u W
    by_cases he : v = u
    · subst he
      rw [if_pos rfl]
      rw [show cmpN v v = 0 by unfold cmpN; rw [if_neg (by omega), if_neg (by omega)]] at hc
      exact aligned_eq W hn' (hide hc) (hide (fun W => zero_any false k.wd W))
    · rw [if_neg (fun h => he (Nat.eq_of_mul_eq_mul_right hp h))]
      by_cases hl : v < u
      · rw [if_pos (Nat.mul_lt_mul_of_pos_right hl hp), ← Nat.sub_mul]
        rw [show cmpN v u = -1 by unfold cmpN; rw [if_pos hl]] at hc
        have ha := fun W => sub_n u v W (by unfold W2; omega)
        rw [show subN u v = u - v by unfold subN; omega] at ha
        exact aligned_lt W hn' (hide hc) (hide ha) (hide (fun W => pack_at k n2 (u - v) (by unfold W2; omega) h0 h1 W))
      · rw [if_neg (fun h => hl (Nat.lt_of_mul_lt_mul_right h)), ← Nat.sub_mul]
        rw [show cmpN v u = 1 by unfold cmpN; rw [if_neg hl, if_pos (by omega)]] at hc
        have ha := fun W => sub_n v u W (by unfold W2; omega)
        rw [show subN v u = v - u by unfold subN; omega] at ha
        exact aligned_gt W hn' (hide hc) (hide ha) (hide (fun W => pack_at k n1 (v - u) (by unfold W2; omega) h0 h1 W))

theorem narrow_1 {w e f P Q b X S : Int} (k : Kd w e f P Q b) (n : Bool) (h : Prt f P Q b 1 X S) (W : World) :
    Calls Try.prog 60 #[.int .i64 w, .agg #[.bool n, .int .i64 1, .int .i64 X, .int .u64 S]] W fun r W' => r = .returned (.int .u64 (rd f P Q b n (mag X S))) ∧ Below W.heap.size W W' := by
  obtain ⟨_, _, s0, _, s1⟩ := h.in k
  have := narrow_any k n 1 X S s0 (by omega) W
  rw [narrow_rd k n h] at this
  exact this
theorem left_d {S1 d : Int} (s0 : 0 ≤ S1) (s1 : S1 < 9007199254740992) (d1 : d ≤ 64) (W : World) :
    Calls Try.prog 84 #[.agg #[.int .u64 (hi S1.toNat), .int .u64 (lo S1.toNat)], .int .i64 d] W fun r W' => r = .returned (.agg #[.int .u64 (hi (S1.toNat * 2 ^ d.toNat)), .int .u64 (lo (S1.toNat * 2 ^ d.toNat))]) ∧ Below W.heap.size W W' := by
  have := left_n S1.toNat d W (by unfold W2; omega)
  rw [shl_al s0 s1 d1] at this
  exact this
theorem finite_any {w e f P Q b X1 S1 X2 S2 : Int} (k : Kd w e f P Q b) (n1 n2 : Bool) (h1 : Prt f P Q b 1 X1 S1) (h2 : Prt f P Q b 1 X2 S2) (W : World) :
    Calls Try.prog 76 #[.int .i64 w, .agg #[.bool n1, .int .i64 1, .int .i64 X1, .int .u64 S1], .agg #[.bool n2, .int .i64 1, .int .i64 X2, .int .u64 S2]] W fun r W' => r = .returned (.int .u64 (addP f P Q b n1 1 (mag X1 S1) n2 1 (mag X2 S2))) ∧ Below W.heap.size W W' := by
  obtain ⟨x0, x1, s0, -, s1⟩ := h1.in k
  obtain ⟨y0, y1, t0, -, t1⟩ := h2.in k
  by_cases hx : X1 < X2
  · rw [add_comm]
    by_cases hd : 64 < X2 - X1
    · rw [add_far k n2 n1 h2 h1 hd]
      exact finite_far_s W hx (i64_id (by omega) (by omega)) hd (hide (fun W => narrow_1 k n2 h2 W))
    · rw [← al_mag (X1 := X2) (S1 := S2) (X2 := X1) x0 (by omega)]
      exact finite_al_s W hx (i64_id (by omega) (by omega)) hd (hide (fun W => of_n S2 W t0 (by omega))) (hide (fun W => left_d t0 t1 (by omega) W)) (hide (fun W => of_n S1 W s0 (by omega)))
        (hide (fun W => aligned_any k n2 n1 _ _ (al_small t0 t1 (by omega)) (by omega) x0 x1 W))
  · by_cases hd : 64 < X1 - X2
    · rw [add_far k n1 n2 h1 h2 hd]
      exact finite_far W hx (i64_id (by omega) (by omega)) hd (hide (fun W => narrow_1 k n1 h1 W))
    · rw [← al_mag (X1 := X1) (S1 := S1) (X2 := X2) y0 (by omega)]
      exact finite_al W hx (i64_id (by omega) (by omega)) hd (hide (fun W => of_n S1 W s0 (by omega))) (hide (fun W => left_d s0 s1 (by omega) W)) (hide (fun W => of_n S2 W t0 (by omega)))
        (hide (fun W => aligned_any k n1 n2 _ _ (al_small s0 s1 (by omega)) (by omega) y0 y1 W))

theorem plus_any {w e f P Q b K1 X1 S1 K2 X2 S2 : Int} (k : Kd w e f P Q b) (n1 n2 : Bool) (h1 : Prt f P Q b K1 X1 S1) (h2 : Prt f P Q b K2 X2 S2) (W : World) :
    Calls Try.prog 58 #[.int .i64 w, .agg #[.bool n1, .int .i64 K1, .int .i64 X1, .int .u64 S1], .agg #[.bool n2, .int .i64 K2, .int .i64 X2, .int .u64 S2]] W fun r W' => r = .returned (.int .u64 (addP f P Q b n1 K1 (mag X1 S1) n2 K2 (mag X2 S2))) ∧ Below W.heap.size W W' := by
  obtain ⟨-, -, s0, -, s1⟩ := h1.in k
  obtain ⟨-, -, t0, -, t1⟩ := h2.in k
  have hK1 : K1 = 0 ∨ K1 = 1 ∨ K1 = 2 ∨ K1 = 3 := by unfold Prt at h1; omega
  have hK2 : K2 = 0 ∨ K2 = 1 ∨ K2 = 2 ∨ K2 = 3 := by unfold Prt at h2; omega
  by_cases hk : K1 = K2
  · subst hk
    have hk' := ne_f (rfl : K1 = K1)
    rcases hK1 with rfl | rfl | rfl | rfl
    · rw [h1.mag0 (by omega), h2.mag0 (by omega)]
      have e : addP f P Q b n1 0 0 n2 0 0 = put f P Q (n1 && n2) 0 0 := by
        unfold addP
        rw [if_neg (by omega), if_neg (by omega), if_neg (by omega)]
        by_cases hn : n1 = n2
        · subst hn
          rw [if_pos rfl, Nat.add_zero, rd_zero k]
          simp
        · rw [if_neg hn, if_pos rfl]
          cases n1 <;> cases n2 <;> simp_all
      rw [e]
      cases n1
      · exact plus_zf W hk' (by simp) (hide (fun W => zero_any false k.wd W))
      · exact plus_zt W hk' (by simp) (hide (fun W => zero_any n2 k.wd W))
    · exact plus_fi W hk' (by simp) (by simp) (by simp) (hide (fun W => finite_any k n1 n2 h1 h2 W))
    · unfold addP
      by_cases hn : n1 = n2
      · rw [if_neg (by
          rintro (h | h | ⟨_, _, h⟩)
          · omega
          · omega
          · exact h hn), if_pos rfl]
        exact plus_is W hk' (by simp) (by simp) (by simp [hn]) (hide (fun W => inf_any n1 k.wd W))
      · rw [if_pos (Or.inr (Or.inr ⟨rfl, rfl, hn⟩))]
        exact plus_id W hk' (by simp) (by simp) (by simp [hn]) (hide (fun W => nan_any k.wd W))
    · unfold addP
      rw [if_pos (Or.inl rfl)]
      exact plus_na W hk' (by simp) (by simp) (by simp) (hide (fun W => nan_any k.wd W))
  · have hk' := ne_t hk
    by_cases hl : K1 < K2
    · have e : addP f P Q b n1 K1 (mag X1 S1) n2 K2 (mag X2 S2) = narrowN f P Q b n2 K2 X2 S2 := by
        rw [narrow_rd k n2 h2, if_neg (by omega)]
        unfold addP
        by_cases h3 : K2 = 3
        · rw [if_pos (Or.inr (Or.inl h3)), if_neg (by omega), if_neg (by omega)]
        · rw [if_neg (by omega), if_neg (by omega)]
          by_cases hi : K2 = 2
          · rw [if_pos hi, if_neg (by omega), if_pos hi]
          · have hK : K2 = 1 := by omega
            subst hK
            have hp := h2.mag1
            rw [if_neg hi, h1.mag0 (by omega), if_pos (rfl : (1 : Int) = 1)]
            by_cases hn : n1 = n2
            · rw [if_pos hn, hn, Nat.zero_add]
            · rw [if_neg hn, if_neg (show ¬ 0 = mag X2 S2 by omega), if_pos hp, Nat.sub_zero]
      rw [e]
      exact plus_lt W hk' hl (hide (fun W => narrow_any k n2 K2 X2 S2 t0 (by omega) W))
    · have e : addP f P Q b n1 K1 (mag X1 S1) n2 K2 (mag X2 S2) = narrowN f P Q b n1 K1 X1 S1 := by
        rw [add_comm, narrow_rd k n1 h1, if_neg (by omega)]
        unfold addP
        by_cases h3 : K1 = 3
        · rw [if_pos (Or.inr (Or.inl h3)), if_neg (by omega), if_neg (by omega)]
        · rw [if_neg (by omega), if_neg (by omega)]
          by_cases hi : K1 = 2
          · rw [if_pos hi, if_neg (by omega), if_pos hi]
          · have hK : K1 = 1 := by omega
            subst hK
            have hp := h1.mag1
            rw [if_neg hi, h2.mag0 (by omega), if_pos (rfl : (1 : Int) = 1)]
            by_cases hn : n2 = n1
            · rw [if_pos hn, hn, Nat.zero_add]
            · rw [if_neg hn, if_neg (show ¬ 0 = mag X1 S1 by omega), if_pos hp, Nat.sub_zero]
      rw [e]
      exact plus_ge W hk' hl (hide (fun W => narrow_any k n1 K1 X1 S1 s0 (by omega) W))

end Go.Proofs.Ytepdmpcgkecjiaa
namespace Go.Proofs.Ytepdmpcgkecjiaa
open Go.RowKit
open Go.Proofs.Ytepdmpcgkecjiaa.W

/-- A float's bits without the sign, as a number. -/
def oc (P Q x : Int) : Nat := (x / P % Q * P + x % P).toNat
/-- Its kind. -/
def oK (P Q x : Int) : Int := if x / P % Q = Q - 1 then (if x % P = 0 then 2 else 3) else if x / P % Q = 0 ∧ x % P = 0 then 0 else 1
/-- Its sign. -/
def oN (P Q x : Int) : Bool := if x / P % Q = Q - 1 ∧ x % P ≠ 0 then false else sg P Q x
/-- Its number, 5000 bits up. -/
def oM (f P Q b x : Int) : Nat := if x / P % Q = Q - 1 then 0 else fval f.toNat (lowN f b) (oc P Q x)
/-- The difference of two floats. -/
def subB (f P Q b x y : Int) : Int := addP f P Q b (oN P Q x) (oK P Q x) (oM f P Q b x) (!oN P Q y) (oK P Q y) (oM f P Q b y)

theorem mag_zero (X : Int) : mag X 0 = 0 := by
  unfold mag
  rw [show (0 : Int).toNat = 0 from rfl, Nat.zero_mul]
theorem open_kd {w e f P Q b : Int} (k : Kd w e f P Q b) (x : Int) : ∃ X S, Opened f P Q b (sg P Q x) (x / P % Q) (x % P) (oN P Q x) (oK P Q x) X S ∧ Prt f P Q b (oK P Q x) X S ∧ mag X S = oM f P Q b x := by
  obtain ⟨p1, p2, q1, q2⟩ := k.pos
  obtain ⟨hP, f0, f1, l0, l1, b0, b1⟩ := k.pow
  obtain ⟨u, v⟩ := exp_in (x / P) (show 1 ≤ Q by omega)
  obtain ⟨u', v'⟩ := exp_in x (show 1 ≤ P by omega)
  have hf := k.f0
  unfold oM oN oK oc
  generalize x / P % Q = e at *
  generalize x % P = y at *
  generalize sg P Q x = n at *
  by_cases h1 : e = Q - 1
  · rw [if_pos h1, if_pos h1]
    by_cases h2 : y = 0
    · rw [if_pos h2, if_neg (by omega)]
      exact ⟨0, 0, Or.inr (Or.inr (Or.inl ⟨hf, h1, h2, rfl, rfl, rfl, rfl⟩)), Or.inr (Or.inl ⟨rfl, rfl, rfl⟩), mag_zero 0⟩
    · rw [if_neg h2, if_pos ⟨h1, h2⟩]
      exact ⟨0, 0, Or.inr (Or.inl ⟨hf, h1, h2, rfl, rfl, rfl, rfl⟩), Or.inl ⟨rfl, rfl, rfl⟩, mag_zero 0⟩
  · rw [if_neg h1, if_neg h1, if_neg (fun h => h1 h.1)]
    by_cases h2 : e = 0
    · by_cases h3 : y = 0
      · rw [if_pos ⟨h2, h3⟩]
        refine ⟨0, 0, Or.inr (Or.inr (Or.inr (Or.inr (Or.inr ⟨hf, h1, h2, h3, rfl, rfl, rfl, rfl⟩)))), Or.inr (Or.inr (Or.inl ⟨rfl, rfl, rfl⟩)), ?_⟩
        rw [h2, h3, Int.zero_mul, mag_zero, show ((0 : Int) + 0).toNat = 0 from rfl, fval_zero]
      · rw [if_neg (fun h => h3 h.2)]
        have ho : Opened f P Q b n e y n 1 (1 - b - f) y := Or.inr (Or.inr (Or.inr (Or.inr (Or.inl ⟨hf, h1, h2, h3, rfl, rfl, rfl, rfl⟩))))
        refine ⟨1 - b - f, y, ho, opened_prt k ho u v u' v', ?_⟩
        have hv := fval_norm f.toNat (lowN f b) y.toNat (lowN f b) (by rw [Nat.pow_succ]; omega) (Nat.le_refl _) (fun h => absurd h (Nat.lt_irrefl _))
        rw [Nat.sub_self, Nat.zero_mul, Nat.zero_add] at hv
        rw [h2, Int.zero_mul, Int.zero_add, hv]
        unfold mag
        rw [show (1 - b - f + 5000).toNat = lowN f b by unfold lowN; omega]
    · rw [if_neg (fun h => h2 h.1)]
      have ho : Opened f P Q b n e y n 1 (e - b - f) (P + y) := Or.inr (Or.inr (Or.inr (Or.inl ⟨hf, h1, h2, rfl, rfl, rfl, rfl⟩)))
      refine ⟨e - b - f, P + y, ho, opened_prt k ho u v u' v', ?_⟩
      have hk : (e - b - f + 5000).toNat = lowN f b + (e.toNat - 1) := by unfold lowN; omega
      have hv := fval_norm f.toNat (lowN f b) (P + y).toNat (lowN f b + (e.toNat - 1)) (by rw [Nat.pow_succ]; omega) (by omega) (fun _ => by omega)
      unfold mag
      rw [hk, ← hv]
      congr 1
      rw [show lowN f b + (e.toNat - 1) - lowN f b = e.toNat - 1 by omega]
      have e1 : (e * P + y).toNat = e.toNat * 2 ^ f.toNat + y.toNat := by
        have : ((e.toNat * 2 ^ f.toNat : Nat) : Int) = e * P := by
          rw [Int.natCast_mul, ← hP, Int.toNat_of_nonneg u]
        omega
      have e2 : (P + y).toNat = 2 ^ f.toNat + y.toNat := by omega
      rw [e1, e2, ← Nat.add_assoc]
      congr 1
      obtain ⟨j, hj⟩ : ∃ j, e.toNat = j + 1 := ⟨e.toNat - 1, by omega⟩
      rw [hj, Nat.add_sub_cancel, Nat.add_mul, Nat.one_mul]

theorem sumSub_any {w e f P Q b x y : Int} (k : Kd w e f P Q b) (W : World) (x0 : 0 ≤ x) (x1 : x < 18446744073709551616) (y0 : 0 ≤ y) (y1 : y < 18446744073709551616) :
    Calls Try.prog 21 #[.int .i64 w, .int .u64 x, .int .u64 y] W fun r W' => r = .returned (.int .u64 (subB f P Q b x y)) ∧ Below W.heap.size W W' := by
  obtain ⟨X1, S1, o1, p1, m1⟩ := open_kd k x
  obtain ⟨X2, S2, o2, p2, m2⟩ := open_kd k y
  have HP := hide (fun W => plus_any k (oN P Q x) (!oN P Q y) p1 p2 W)
  unfold subB
  rw [m1, m2] at HP
  exact sumSub_l W (hide (fun W => open_any x k.wd W x0 x1 o1)) (hide (fun W => open_any y k.wd W y0 y1 o2)) HP

theorem open_none {w e f P Q b : Int} (k : Wd w e f P Q b) (hf : f = 0) (x : Int) (W : World) (x0 : 0 ≤ x) (x1 : x < 18446744073709551616) :
    Calls Try.prog 16 #[.int .i64 w, .int .u64 x] W fun r W' => r = .returned (.agg #[.bool false, .int .i64 0, .int .i64 0, .int .u64 0]) ∧ Below W.heap.size W W' :=
  open_any x k W x0 x1 (Or.inl ⟨hf, rfl, rfl, rfl, rfl⟩)
end Go.Proofs.Ytepdmpcgkecjiaa
namespace Go.Proofs.Ytepdmpcgkecjiaa
open Go.RowKit
open Go.Proofs.Ytepdmpcgkecjiaa.W

theorem put_in {w e f P Q b x y : Int} {n : Bool} (h : Kd w e f P Q b) (x0 : 0 ≤ x) (x1 : x < Q) (y0 : 0 ≤ y) (y1 : y < P) :
    0 ≤ put f P Q n x y ∧ put f P Q n x y < 18446744073709551616 ∧ sg P Q (put f P Q n x y) = n ∧ put f P Q n x y / P % Q = x ∧ put f P Q n x y % P = y := by
  unfold sg
  cases n
  · rw [put_no h.f0]
    rcases h with ⟨-, -, -, rfl, rfl, -⟩ | ⟨-, -, -, rfl, rfl, -⟩
    · refine ⟨by omega, by omega, ?_, by omega, by omega⟩
      show ((x * 8388608 + y) / 2147483648 % 2 == 1) = false
      exact eq_f (by omega)
    · refine ⟨by omega, by omega, ?_, by omega, by omega⟩
      show ((x * 4503599627370496 + y) / 9223372036854775808 % 2 == 1) = false
      exact eq_f (by omega)
  · rw [put_yes h.f0]
    rcases h with ⟨-, -, -, rfl, rfl, -⟩ | ⟨-, -, -, rfl, rfl, -⟩
    · refine ⟨by omega, by omega, ?_, by omega, by omega⟩
      show ((x * 8388608 + y + 2147483648) / 2147483648 % 2 == 1) = true
      exact eq_t (by omega)
    · refine ⟨by omega, by omega, ?_, by omega, by omega⟩
      show ((x * 4503599627370496 + y + 9223372036854775808) / 9223372036854775808 % 2 == 1) = true
      exact eq_t (by omega)

/-- The infinite one's code. -/
def top (P Q : Int) : Int := (Q - 1) * P
theorem top_pos {w e f P Q b : Int} (k : Kd w e f P Q b) : 0 < top P Q := by
  unfold top
  rcases k with ⟨-, -, -, rfl, rfl, -⟩ | ⟨-, -, -, rfl, rfl, -⟩ <;> omega
/-- The canonical NaN. -/
def nanB (f P Q : Int) : Int := put f P Q false (Q - 1) (P / 2)

theorem code_parts {w e f P Q b c : Int} (k : Kd w e f P Q b) (c0 : 0 ≤ c) (c1 : c ≤ top P Q) : 0 ≤ c / P ∧ c / P < Q ∧ 0 ≤ c % P ∧ c % P < P ∧ c / P * P + c % P = c ∧ (c / P = Q - 1 ↔ c = top P Q) ∧ (c = top P Q → c % P = 0) := by
  unfold top at *
  rcases k with ⟨-, -, -, rfl, rfl, -⟩ | ⟨-, -, -, rfl, rfl, -⟩ <;> (refine ⟨?_, ?_, ?_, ?_, ?_, ?_, ?_⟩ <;> omega)

/-- A float's own code, sign and kind. -/
theorem fl_facts {w e f P Q b c : Int} (k : Kd w e f P Q b) (n : Bool) (c0 : 0 ≤ c) (c1 : c ≤ top P Q) :
    0 ≤ fl f P Q n c ∧ fl f P Q n c < 18446744073709551616 ∧ ((oc P Q (fl f P Q n c) : Nat) : Int) = c ∧ oN P Q (fl f P Q n c) = n ∧ cutN f P Q (fl f P Q n c) = fl f P Q n c ∧ (fl f P Q n c / P % Q == Q - 1 && fl f P Q n c % P != 0) = false := by
  obtain ⟨a0, a1, d0, d1, he, ht, hz⟩ := code_parts k c0 c1
  have hf : fl f P Q n c = put f P Q n (c / P) (c % P) := rfl
  obtain ⟨r0, r1, r2, r3, r4⟩ := put_in (n := n) k a0 a1 d0 d1
  rw [← hf] at r0 r1 r2 r3 r4
  refine ⟨r0, r1, ?_, ?_, ?_, ?_⟩
  · unfold oc
    rw [r3, r4, he, Int.toNat_of_nonneg c0]
  · unfold oN
    rw [r2, r3, r4, if_neg (fun h => h.2 (hz (ht.1 h.1)))]
  · rw [← cut_put k.wd.sz, r2, r3, r4]
    exact hf.symm
  · rw [r3, r4]
    by_cases h : c = top P Q
    · simp [hz h]
    · rw [eq_f (fun h' => h (ht.1 h'))]
      rfl
/-- A float by its code. -/
theorem kind_oc {w e f P Q b : Int} (k : Kd w e f P Q b) (x : Int) :
    (oK P Q x = 3 ∧ top P Q < oc P Q x ∧ oN P Q x = false) ∨ (oK P Q x = 2 ∧ (oc P Q x : Int) = top P Q ∧ oM f P Q b x = 0) ∨
    (oK P Q x = 1 ∧ 0 < oc P Q x ∧ (oc P Q x : Int) < top P Q ∧ oM f P Q b x = fval f.toNat (lowN f b) (oc P Q x)) ∨ (oK P Q x = 0 ∧ oc P Q x = 0 ∧ oM f P Q b x = 0) := by
  obtain ⟨p1, p2, q1, q2⟩ := k.pos
  obtain ⟨u, v⟩ := exp_in (x / P) (show 1 ≤ Q by omega)
  obtain ⟨u', v'⟩ := exp_in x (show 1 ≤ P by omega)
  unfold oM oN oK
  have hc : ((oc P Q x : Nat) : Int) = x / P % Q * P + x % P := by
    unfold oc
    have := Int.mul_nonneg u (show 0 ≤ P by omega)
    omega
  have hz := fval_zero f.toNat (lowN f b)
  generalize oc P Q x = c at *
  generalize x / P % Q = e at *
  generalize x % P = y at *
  generalize sg P Q x = n at *
  by_cases h1 : e = Q - 1
  · rw [if_pos h1, if_pos h1]
    by_cases h2 : y = 0
    · rw [if_pos h2]
      refine Or.inr (Or.inl ⟨rfl, ?_, rfl⟩)
      rw [hc, h1, h2]
      unfold top
      omega
    · rw [if_neg h2, if_pos ⟨h1, h2⟩]
      refine Or.inl ⟨rfl, ?_, rfl⟩
      rw [hc, h1]
      unfold top
      omega
  · rw [if_neg h1, if_neg h1]
    by_cases h2 : e = 0 ∧ y = 0
    · rw [if_pos h2]
      have : c = 0 := by
        rw [h2.1, h2.2] at hc
        omega
      subst this
      exact Or.inr (Or.inr (Or.inr ⟨rfl, rfl, hz⟩))
    · rw [if_neg h2]
      refine Or.inr (Or.inr (Or.inl ⟨rfl, ?_, ?_, rfl⟩))
      · rcases k with ⟨-, -, -, rfl, rfl, -⟩ | ⟨-, -, -, rfl, rfl, -⟩ <;> omega
      · unfold top
        rcases k with ⟨-, -, -, rfl, rfl, -⟩ | ⟨-, -, -, rfl, rfl, -⟩ <;> omega
theorem oM_fin {w e f P Q b : Int} (k : Kd w e f P Q b) {x : Int} (h : oK P Q x ≠ 3 ∧ oK P Q x ≠ 2) : oM f P Q b x = fval f.toNat (lowN f b) (oc P Q x) ∧ (oc P Q x : Int) < top P Q := by
  have ht := top_pos k
  rcases kind_oc k x with ⟨h1, _⟩ | ⟨h1, _⟩ | ⟨_, _, h2, h3⟩ | ⟨_, h2, h3⟩
  · exact absurd h1 h.1
  · exact absurd h1 h.2
  · exact ⟨h3, h2⟩
  · rw [h2, h3, fval_zero]
    exact ⟨rfl, ht⟩
/-- What a float's bits are by its sign and its code. -/
theorem cut_fl {w e f P Q b : Int} (k : Kd w e f P Q b) {x : Int} (h : oK P Q x ≠ 3) : cutN f P Q x = fl f P Q (oN P Q x) (oc P Q x : Int) := by
  obtain ⟨p1, p2, q1, q2⟩ := k.pos
  obtain ⟨u, v⟩ := exp_in (x / P) (show 1 ≤ Q by omega)
  obtain ⟨u', v'⟩ := exp_in x (show 1 ≤ P by omega)
  rw [← cut_put k.wd.sz]
  have hn : oN P Q x = sg P Q x := by
    unfold oN
    unfold oK at h
    by_cases h1 : x / P % Q = Q - 1
    · rw [if_pos h1] at h
      by_cases h2 : x % P = 0
      · rw [if_neg (fun h' => h'.2 h2)]
      · rw [if_neg h2] at h
        exact absurd rfl h
    · rw [if_neg (fun h' => h1 h'.1)]
  have hc : ((oc P Q x : Nat) : Int) = x / P % Q * P + x % P := by
    unfold oc
    have := Int.mul_nonneg u (show 0 ≤ P by omega)
    omega
  unfold fl
  rw [hn, hc]
  generalize x / P % Q = e at *
  generalize x % P = y at *
  congr 1
  · rw [Int.add_comm, Int.add_mul_ediv_right _ _ (by omega), Int.ediv_eq_zero_of_lt u' v', Int.zero_add]
  · rw [Int.add_comm, Int.add_mul_emod_self_right, Int.emod_eq_of_lt u' v']

theorem lid_top {w e f P Q b : Int} (k : Kd w e f P Q b) (c : Nat) : 0 ≤ lid P Q c ∧ lid P Q c ≤ top P Q := lid_in k c
theorem put_inf {w e f P Q b : Int} (k : Kd w e f P Q b) (n : Bool) : put f P Q n (Q - 1) 0 = fl f P Q n (top P Q) := by
  have ht := top_pos k
  obtain ⟨_, _, _, _, _, h1, h2⟩ := code_parts k (Int.le_of_lt ht) (Int.le_refl _)
  unfold fl
  rw [h1.2 rfl, h2 rfl]
theorem put_nought {f P Q : Int} (n : Bool) : put f P Q n 0 0 = fl f P Q n 0 := by
  unfold fl
  simp
/-- A float's number is rounded to itself. -/
theorem rd_val {w e f P Q b : Int} (_ : Kd w e f P Q b) (n : Bool) {c : Nat} (h : (c : Int) < top P Q) : rd f P Q b n (fval f.toNat (lowN f b) c) = fl f P Q n c := by
  unfold rd
  rw [fval_code]
  unfold lid
  rw [if_neg (show ¬ (Q - 1) * P ≤ (c : Int) by unfold top at h; omega)]

/-- A float less itself. -/
theorem sub_self {w e f P Q b : Int} (k : Kd w e f P Q b) {x : Int} : (oK P Q x = 2 → subB f P Q b x x = nanB f P Q) ∧ (oK P Q x ≠ 2 → oK P Q x ≠ 3 → subB f P Q b x x = 0) := by
  unfold subB addP
  refine ⟨fun h => ?_, fun h h3 => ?_⟩
  · rw [if_pos (Or.inr (Or.inr ⟨h, h, by cases oN P Q x <;> simp⟩))]
    rfl
  · rw [if_neg (by omega), if_neg h, if_neg h, if_neg (by cases oN P Q x <;> simp), if_pos rfl, put_no k.f0]
    omega
end Go.Proofs.Ytepdmpcgkecjiaa
namespace Go.Proofs.Ytepdmpcgkecjiaa
open Go.RowKit
open Go.Proofs.Ytepdmpcgkecjiaa.W

set_option maxRecDepth 100000 in
set_option maxHeartbeats 2000000 in
theorem okn_l {w e f : Int} (W : World) (HF : Hid (∀ W, Calls Try.prog 68 #[.int .i64 w] W fun r W' => r = .returned (.tuple #[.int .i64 e, .int .i64 f]) ∧ Below W.heap.size W W')) :
    Calls Try.prog 85 #[.int .i64 w] W fun r W' => r = .returned (.bool (e != 0)) ∧ Below W.heap.size W W' := by
  go_enter Try.func85, Try.ntmps85
  go_wp2_with fail
  refine (unhide HF _).mono ?_
  rintro _ w1 ⟨rfl, hb⟩
  have HB := hide hb
  clear hb
  go_wp2_with fail
  go_ret
  exact ⟨rfl, unhide HB⟩
set_option maxRecDepth 100000 in
set_option maxHeartbeats 2000000 in
theorem rank_n {w x : Int} (W : World) (HKN : Hid (∀ W, Calls Try.prog 85 #[.int .i64 w] W fun r W' => r = .returned (.bool true) ∧ Below W.heap.size W W')) (HIN : Hid (∀ W, Calls Try.prog 86 #[.int .i64 w, .int .u64 x] W fun r W' => r = .returned (.bool true) ∧ Below W.heap.size W W')) :
    Calls Try.prog 73 #[.int .i64 w, .int .u64 x] W fun r W' => r = .returned (.tuple #[.int .i64 0, .bool false]) ∧ Below W.heap.size W W' := by
  go_enter Try.func73, Try.ntmps73
  go_wp2_with fail
  refine (unhide HKN _).mono ?_
  rintro _ w1 ⟨rfl, hb⟩
  have HB := hide hb
  clear hb
  go_wp2_with fail
  refine (unhide HIN _).mono ?_
  rintro _ w2 ⟨rfl, hb⟩
  have HB := hide (bthen (unhide HB) hb)
  clear hb
  go_wp2_with fail
  go_ret2
  exact ⟨rfl, unhide HB⟩
set_option maxRecDepth 100000 in
set_option maxHeartbeats 2000000 in
theorem rank_p {w x c Z A B : Int} (W : World) (HKN : Hid (∀ W, Calls Try.prog 85 #[.int .i64 w] W fun r W' => r = .returned (.bool true) ∧ Below W.heap.size W W')) (HIN : Hid (∀ W, Calls Try.prog 86 #[.int .i64 w, .int .u64 x] W fun r W' => r = .returned (.bool false) ∧ Below W.heap.size W W')) (HZ : Hid (∀ W, Calls Try.prog 74 #[.int .i64 w, .bool true] W fun r W' => r = .returned (.int .u64 Z) ∧ Below W.heap.size W W')) (HC : Hid (∀ W, Calls Try.prog 18 #[.int .i64 w, .int .u64 x] W fun r W' => r = .returned (.int .u64 c) ∧ Below W.heap.size W W')) (h1 : bits .andNot .u64 c Z = A) (h2 : IntKind.i64.wrap A = A) (h3 : bits .and .u64 c Z = B) (h4 : (B != 0) = false) :
    Calls Try.prog 73 #[.int .i64 w, .int .u64 x] W fun r W' => r = .returned (.tuple #[.int .i64 A, .bool true]) ∧ Below W.heap.size W W' := by
  go_enter Try.func73, Try.ntmps73
  go_wp2_with fail
  refine (unhide HKN _).mono ?_
  rintro _ w1 ⟨rfl, hb⟩
  have HB := hide hb
  clear hb
  go_wp2_with fail
  refine (unhide HIN _).mono ?_
  rintro _ w2 ⟨rfl, hb⟩
  have HB := hide (bthen (unhide HB) hb)
  clear hb
  go_wp2_with fail
  refine (unhide HZ _).mono ?_
  rintro _ w3 ⟨rfl, hb⟩
  have HB := hide (bthen (unhide HB) hb)
  clear hb
  go_wp2_with fail
  refine (unhide HC _).mono ?_
  rintro _ w4 ⟨rfl, hb⟩
  have HB := hide (bthen (unhide HB) hb)
  clear hb
  go_wp2_with fail
  go_ret2
  exact ⟨rfl, unhide HB⟩
set_option maxRecDepth 100000 in
set_option maxHeartbeats 2000000 in
theorem rank_m {w x c Z A B M : Int} (W : World) (HKN : Hid (∀ W, Calls Try.prog 85 #[.int .i64 w] W fun r W' => r = .returned (.bool true) ∧ Below W.heap.size W W')) (HIN : Hid (∀ W, Calls Try.prog 86 #[.int .i64 w, .int .u64 x] W fun r W' => r = .returned (.bool false) ∧ Below W.heap.size W W')) (HZ : Hid (∀ W, Calls Try.prog 74 #[.int .i64 w, .bool true] W fun r W' => r = .returned (.int .u64 Z) ∧ Below W.heap.size W W')) (HC : Hid (∀ W, Calls Try.prog 18 #[.int .i64 w, .int .u64 x] W fun r W' => r = .returned (.int .u64 c) ∧ Below W.heap.size W W')) (h1 : bits .andNot .u64 c Z = A) (h2 : IntKind.i64.wrap A = A) (h3 : bits .and .u64 c Z = B) (h4 : (B != 0) = true) (h5 : IntKind.i64.wrap (-A) = M) :
    Calls Try.prog 73 #[.int .i64 w, .int .u64 x] W fun r W' => r = .returned (.tuple #[.int .i64 M, .bool true]) ∧ Below W.heap.size W W' := by
  go_enter Try.func73, Try.ntmps73
  go_wp2_with fail
  refine (unhide HKN _).mono ?_
  rintro _ w1 ⟨rfl, hb⟩
  have HB := hide hb
  clear hb
  go_wp2_with fail
  refine (unhide HIN _).mono ?_
  rintro _ w2 ⟨rfl, hb⟩
  have HB := hide (bthen (unhide HB) hb)
  clear hb
  go_wp2_with fail
  refine (unhide HZ _).mono ?_
  rintro _ w3 ⟨rfl, hb⟩
  have HB := hide (bthen (unhide HB) hb)
  clear hb
  go_wp2_with fail
  refine (unhide HC _).mono ?_
  rintro _ w4 ⟨rfl, hb⟩
  have HB := hide (bthen (unhide HB) hb)
  clear hb
  go_wp2_with fail
  go_ret2
  exact ⟨rfl, unhide HB⟩

end Go.Proofs.Ytepdmpcgkecjiaa
namespace Go.Proofs.Ytepdmpcgkecjiaa
open Go.RowKit
open Go.Proofs.Ytepdmpcgkecjiaa.W

set_option maxRecDepth 100000 in
set_option maxHeartbeats 2000000 in
theorem lt_c {x y : Int} (W : World)  :
    Calls Try.prog 57 #[.int .i64 x, .int .i64 y] W fun r W' => r = .returned (.bool (decide (x < y))) ∧ Below W.heap.size W W' := by
  go_enter Try.func57, Try.ntmps57
  go_wp2_with fail
  go_ret
  exact ⟨by simp, Below.refl _ _⟩
set_option maxRecDepth 100000 in
set_option maxHeartbeats 2000000 in
theorem ask_t_lt {w x y a b : Int} {t : Bool} (W : World) (H1 : Hid (∀ W, Calls Try.prog 73 #[.int .i64 w, .int .u64 x] W fun r W' => r = .returned (.tuple #[.int .i64 a, .bool true]) ∧ Below W.heap.size W W')) (H2 : Hid (∀ W, Calls Try.prog 73 #[.int .i64 w, .int .u64 y] W fun r W' => r = .returned (.tuple #[.int .i64 b, .bool true]) ∧ Below W.heap.size W W')) (H3 : Hid (∀ W, Calls Try.prog 57 #[.int .i64 a, .int .i64 b] W fun r W' => r = .returned (.bool t) ∧ Below W.heap.size W W')) :
    Calls Try.prog 56 #[.int .i64 w, .int .u64 x, .int .u64 y, .func (.func 57) #[] #[]] W fun r W' => r = .returned (.bool t) ∧ Below W.heap.size W W' := by
  go_enter Try.func56, Try.ntmps56
  go_wp2_with fail
  refine (unhide H1 _).mono ?_
  rintro _ w1 ⟨rfl, hb⟩
  have HB := hide hb
  clear hb
  go_wp2_with fail
  refine (unhide H2 _).mono ?_
  rintro _ w2 ⟨rfl, hb⟩
  have HB := hide (bthen (unhide HB) hb)
  clear hb
  go_wp2_with fail
  refine (unhide H3 _).mono ?_
  rintro _ w3 ⟨rfl, hb⟩
  have HB := hide (bthen (unhide HB) hb)
  clear hb
  go_wp2_with fail
  go_ret
  exact ⟨rfl, unhide HB⟩
set_option maxRecDepth 100000 in
set_option maxHeartbeats 2000000 in
theorem ask_f1 {w x y a b : Int} {v : Value} {t : Bool} (W : World) (H1 : Hid (∀ W, Calls Try.prog 73 #[.int .i64 w, .int .u64 x] W fun r W' => r = .returned (.tuple #[.int .i64 a, .bool false]) ∧ Below W.heap.size W W')) (H2 : Hid (∀ W, Calls Try.prog 73 #[.int .i64 w, .int .u64 y] W fun r W' => r = .returned (.tuple #[.int .i64 b, .bool t]) ∧ Below W.heap.size W W')) :
    Calls Try.prog 56 #[.int .i64 w, .int .u64 x, .int .u64 y, v] W fun r W' => r = .returned (.bool false) ∧ Below W.heap.size W W' := by
  go_enter Try.func56, Try.ntmps56
  go_wp2_with fail
  refine (unhide H1 _).mono ?_
  rintro _ w1 ⟨rfl, hb⟩
  have HB := hide hb
  clear hb
  go_wp2_with fail
  refine (unhide H2 _).mono ?_
  rintro _ w2 ⟨rfl, hb⟩
  have HB := hide (bthen (unhide HB) hb)
  clear hb
  go_wp2_with fail
  go_ret
  exact ⟨rfl, unhide HB⟩
set_option maxRecDepth 100000 in
set_option maxHeartbeats 2000000 in
theorem ask_f2 {w x y a b : Int} {v : Value} (W : World) (H1 : Hid (∀ W, Calls Try.prog 73 #[.int .i64 w, .int .u64 x] W fun r W' => r = .returned (.tuple #[.int .i64 a, .bool true]) ∧ Below W.heap.size W W')) (H2 : Hid (∀ W, Calls Try.prog 73 #[.int .i64 w, .int .u64 y] W fun r W' => r = .returned (.tuple #[.int .i64 b, .bool false]) ∧ Below W.heap.size W W')) :
    Calls Try.prog 56 #[.int .i64 w, .int .u64 x, .int .u64 y, v] W fun r W' => r = .returned (.bool false) ∧ Below W.heap.size W W' := by
  go_enter Try.func56, Try.ntmps56
  go_wp2_with fail
  refine (unhide H1 _).mono ?_
  rintro _ w1 ⟨rfl, hb⟩
  have HB := hide hb
  clear hb
  go_wp2_with fail
  refine (unhide H2 _).mono ?_
  rintro _ w2 ⟨rfl, hb⟩
  have HB := hide (bthen (unhide HB) hb)
  clear hb
  go_wp2_with fail
  go_ret
  exact ⟨rfl, unhide HB⟩
set_option maxRecDepth 100000 in
set_option maxHeartbeats 2000000 in
theorem lt_l {w x y : Int} {t : Bool} (W : World) (H : Hid (∀ W, Calls Try.prog 56 #[.int .i64 w, .int .u64 x, .int .u64 y, .func (.func 57) #[] #[]] W fun r W' => r = .returned (.bool t) ∧ Below W.heap.size W W')) :
    Calls Try.prog 19 #[.int .i64 w, .int .u64 x, .int .u64 y] W fun r W' => r = .returned (.bool t) ∧ Below W.heap.size W W' := by
  go_enter Try.func19, Try.ntmps19
  go_wp2_with fail
  refine (unhide H _).mono ?_
  rintro _ w1 ⟨rfl, hb⟩
  have HB := hide hb
  clear hb
  go_wp2_with fail
  go_ret
  exact ⟨rfl, unhide HB⟩
end Go.Proofs.Ytepdmpcgkecjiaa
namespace Go.Proofs.Ytepdmpcgkecjiaa
open Go.RowKit
open Go.Proofs.Ytepdmpcgkecjiaa.W

/-- A float's code with its sign. -/
def sc (P Q x : Int) : Int := if oN P Q x then -(oc P Q x : Int) else (oc P Q x : Int)
/-- How two whole numbers are to each other. -/
def cmpS (a b : Int) : Int := if a < b then -1 else if a = b then 0 else 1
/-- How two floats are to each other. -/
def cmpB (P Q x y : Int) : Int := if oK P Q x = 3 ∨ oK P Q y = 3 then 2 else cmpS (sc P Q x) (sc P Q y)
theorem oK_nan (P Q x : Int) : (x / P % Q == Q - 1 && x % P != 0) = true ↔ oK P Q x = 3 := by
  unfold oK
  by_cases h : x / P % Q = Q - 1
  · rw [if_pos h, eq_t h]
    by_cases h2 : x % P = 0
    · rw [if_pos h2, ne_f h2]; simp
    · rw [if_neg h2, ne_t h2]; simp
  · rw [if_neg h, eq_f h]
    simp
    split <;> omega
theorem nan_t {P Q x : Int} (h : oK P Q x = 3) : (x / P % Q == Q - 1 && x % P != 0) = true := (oK_nan P Q x).2 h
theorem nan_f {P Q x : Int} (h : oK P Q x ≠ 3) : (x / P % Q == Q - 1 && x % P != 0) = false := by
  cases hh : (x / P % Q == Q - 1 && x % P != 0)
  · rfl
  · exact absurd ((oK_nan P Q x).1 hh) h
theorem oN_sg {P Q x : Int} (h : oK P Q x ≠ 3) : oN P Q x = sg P Q x := by
  unfold oN
  rw [if_neg]
  intro hh
  apply h
  unfold oK
  rw [if_pos hh.1, if_neg hh.2]

theorem sign_bit {k a : Nat} (ha : a < 2 ^ (k + 1)) : a &&& 2 ^ k = 0 ↔ a < 2 ^ k := by
  constructor
  · intro h
    refine Decidable.byContradiction fun hn => ?_
    obtain ⟨r, rfl⟩ : ∃ r, a = 2 ^ k + r := ⟨a - 2 ^ k, by omega⟩
    have hr : r < 2 ^ k := by rw [Nat.pow_succ] at ha; omega
    have h1 : ((2 ^ k + r) &&& 2 ^ k).testBit k = false := by rw [h]; exact Nat.zero_testBit k
    rw [Nat.testBit_and, Nat.testBit_two_pow_self, Nat.testBit_two_pow_add_eq, Nat.testBit_lt_two_pow hr] at h1
    exact absurd h1 (by decide)
  · intro h
    apply Nat.eq_of_testBit_eq
    intro i
    rw [Nat.testBit_and, Nat.zero_testBit, Nat.testBit_two_pow]
    by_cases hi : k = i
    · subst hi
      rw [Nat.testBit_lt_two_pow h]
      rfl
    · simp [hi]

/-- What Rank makes of the bits. -/
theorem rank_bits {w e f P Q b x : Int} (k : Kd w e f P Q b) (h : oK P Q x ≠ 3) :
    ∃ B, bits .andNot .u64 (cutN f P Q x) (put f P Q true 0 0) = (oc P Q x : Int) ∧ bits .and .u64 (cutN f P Q x) (put f P Q true 0 0) = B ∧ (B != 0) = oN P Q x ∧ (oc P Q x : Int) < 9223372036854775808 := by
  obtain ⟨p1, p2, q1, q2⟩ := k.pos
  obtain ⟨u, v⟩ := exp_in (x / P) (show 1 ≤ Q by omega)
  obtain ⟨u', v'⟩ := exp_in x (show 1 ≤ P by omega)
  have hn := oN_sg h
  have hc : ((oc P Q x : Nat) : Int) = x / P % Q * P + x % P := by
    unfold oc
    have := Int.mul_nonneg u (show 0 ≤ P by omega)
    omega
  have hcut := cut_put k.wd.sz x
  rw [← hcut, hn, put_yes k.f0, Int.zero_mul, Int.zero_add, Int.zero_add]
  rw [hn] at *
  clear hn hcut h
  generalize x / P % Q = E at *
  generalize x % P = F at *
  generalize sg P Q x = n at *
  generalize oc P Q x = c at *
  rcases k with ⟨-, -, rfl, rfl, rfl, -⟩ | ⟨-, -, rfl, rfl, rfl, -⟩
  · have hput : put 23 8388608 256 n E F = ((c + (if n then 2147483648 else 0) : Nat) : Int) := by
      unfold put
      cases n <;> simp <;> omega
    have hc2 : c < 2147483648 := by omega
    have ha : c + (if n then 2147483648 else 0) < 2 ^ 32 := by cases n <;> simp <;> omega
    rw [hput, show (8388608 * 256 : Int) = ((2147483648 : Nat) : Int) by decide]
    refine ⟨_, ?_, rfl, ?_, by omega⟩
    · rw [u64_andNot_nat _ _ (by omega) (by decide)]
      generalize hA : c + (if n then 2147483648 else 0) = a at *
      have e1 : a &&& 4294967295 = a := by
        rw [show 4294967295 = 2 ^ 32 - 1 by decide, Nat.and_two_pow_sub_one_eq_mod, Nat.mod_eq_of_lt ha]
      rw [← e1, Nat.and_assoc, show 4294967295 &&& (18446744073709551615 - 2147483648) = 2 ^ 31 - 1 by decide, Nat.and_two_pow_sub_one_eq_mod]
      cases n <;> simp at hA <;> omega
    · rw [Go.bits_and_u64_nat _ _ (by omega) (by decide)]
      have := sign_bit (k := 31) (a := c + (if n then 2147483648 else 0)) ha
      generalize hA : c + (if n then 2147483648 else 0) = a at *
      rw [show 2147483648 = 2 ^ 31 by decide]
      cases n
      · have : a &&& 2 ^ 31 = 0 := this.2 (by simp at hA; omega)
        rw [this]; rfl
      · have : ¬ a &&& 2 ^ 31 = 0 := fun hh => by have := this.1 hh; simp at hA; omega
        exact ne_t (by omega)
  · have hput : put 52 4503599627370496 2048 n E F = ((c + (if n then 9223372036854775808 else 0) : Nat) : Int) := by
      unfold put
      cases n <;> simp <;> omega
    have hc2 : c < 9223372036854775808 := by omega
    have ha : c + (if n then 9223372036854775808 else 0) < 2 ^ 64 := by cases n <;> simp <;> omega
    rw [hput, show (4503599627370496 * 2048 : Int) = ((9223372036854775808 : Nat) : Int) by decide]
    refine ⟨_, ?_, rfl, ?_, by omega⟩
    · rw [u64_andNot_nat _ _ (by omega) (by decide)]
      generalize hA : c + (if n then 9223372036854775808 else 0) = a at *
      rw [show (18446744073709551615 - 9223372036854775808) = 2 ^ 63 - 1 by decide, Nat.and_two_pow_sub_one_eq_mod]
      cases n <;> simp at hA <;> omega
    · rw [Go.bits_and_u64_nat _ _ (by omega) (by decide)]
      have := sign_bit (k := 63) (a := c + (if n then 9223372036854775808 else 0)) ha
      generalize hA : c + (if n then 9223372036854775808 else 0) = a at *
      rw [show 9223372036854775808 = 2 ^ 63 by decide]
      cases n
      · have : a &&& 2 ^ 63 = 0 := this.2 (by simp at hA; omega)
        rw [this]; rfl
      · have : ¬ a &&& 2 ^ 63 = 0 := fun hh => by have := this.1 hh; simp at hA; omega
        exact ne_t (by omega)

theorem okn_any {w e f P Q b : Int} (h : Wd w e f P Q b) (W : World) : Calls Try.prog 85 #[.int .i64 w] W fun r W' => r = .returned (.bool (f != 0)) ∧ Below W.heap.size W W' := by
  have := okn_l W (hide (fun W => fields_any h W))
  have he : (e != 0) = (f != 0) := by
    rcases h with ⟨-, rfl, rfl, -⟩ | ⟨-, rfl, rfl, -⟩ | ⟨-, rfl, rfl, -⟩ <;> rfl
  rw [he] at this
  exact this
theorem okn_t {w e f P Q b : Int} (k : Kd w e f P Q b) (W : World) : Calls Try.prog 85 #[.int .i64 w] W fun r W' => r = .returned (.bool true) ∧ Below W.heap.size W W' := by
  have := okn_any k.wd W
  rw [ne_t k.f0] at this
  exact this
theorem rank_nan {w e f P Q b x : Int} (k : Kd w e f P Q b) (W : World) (x0 : 0 ≤ x) (x1 : x < 18446744073709551616) (h : oK P Q x = 3) : Calls Try.prog 73 #[.int .i64 w, .int .u64 x] W fun r W' => r = .returned (.tuple #[.int .i64 0, .bool false]) ∧ Below W.heap.size W W' := by
  have hi := fun W => isNanW_any x k.wd W x0 x1
  rw [nan_t h] at hi
  exact rank_n W (hide (okn_t k)) (hide hi)
theorem rank_any {w e f P Q b x : Int} (k : Kd w e f P Q b) (W : World) (x0 : 0 ≤ x) (x1 : x < 18446744073709551616) (h : oK P Q x ≠ 3) : Calls Try.prog 73 #[.int .i64 w, .int .u64 x] W fun r W' => r = .returned (.tuple #[.int .i64 (sc P Q x), .bool true]) ∧ Below W.heap.size W W' := by
  have hi := fun W => isNanW_any x k.wd W x0 x1
  rw [nan_f h] at hi
  obtain ⟨B, r1, r2, r3, r4⟩ := rank_bits k h
  unfold sc
  cases hn : oN P Q x
  · rw [hn] at r3
    exact rank_p W (hide (okn_t k)) (hide hi) (hide (fun W => zero_any true k.wd W)) (hide (fun W => cut_any x k.wd W x0 x1)) r1 (i64_id (by omega) (by omega)) r2 r3
  · rw [hn] at r3
    exact rank_m W (hide (okn_t k)) (hide hi) (hide (fun W => zero_any true k.wd W)) (hide (fun W => cut_any x k.wd W x0 x1)) r1 (i64_id (by omega) (by omega)) r2 r3 (i64_id (by omega) (by omega))

theorem cmpS_lt (a b : Int) : decide (a < b) = (cmpS a b == -1) := by
  unfold cmpS
  rcases Int.lt_trichotomy a b with h | h | h
  · rw [if_pos h, decide_eq_true h]; rfl
  · rw [if_neg (by omega), if_pos h, decide_eq_false (by omega)]; rfl
  · rw [if_neg (by omega), if_neg (by omega), decide_eq_false (by omega)]; rfl
theorem lt_any {w e f P Q b x y : Int} (k : Kd w e f P Q b) (W : World) (x0 : 0 ≤ x) (x1 : x < 18446744073709551616) (y0 : 0 ≤ y) (y1 : y < 18446744073709551616) : Calls Try.prog 19 #[.int .i64 w, .int .u64 x, .int .u64 y] W fun r W' => r = .returned (.bool (cmpB P Q x y == -1)) ∧ Below W.heap.size W W' := by
  unfold cmpB
  by_cases hx : oK P Q x = 3
  · rw [if_pos (Or.inl hx)]
    by_cases hy : oK P Q y = 3
    · exact lt_l W (hide (fun W => ask_f1 W (hide (fun W => rank_nan k W x0 x1 hx)) (hide (fun W => rank_nan k W y0 y1 hy))))
    · exact lt_l W (hide (fun W => ask_f1 W (hide (fun W => rank_nan k W x0 x1 hx)) (hide (fun W => rank_any k W y0 y1 hy))))
  · by_cases hy : oK P Q y = 3
    · rw [if_pos (Or.inr hy)]
      exact lt_l W (hide (fun W => ask_f2 W (hide (fun W => rank_any k W x0 x1 hx)) (hide (fun W => rank_nan k W y0 y1 hy))))
    · rw [if_neg (by omega), ← cmpS_lt]
      exact lt_l W (hide (fun W => ask_t_lt W (hide (fun W => rank_any k W x0 x1 hx)) (hide (fun W => rank_any k W y0 y1 hy)) (hide (fun W => lt_c W))))
end Go.Proofs.Ytepdmpcgkecjiaa
namespace Go.Proofs.Ytepdmpcgkecjiaa
open Go.RowKit
open Go.Proofs.Ytepdmpcgkecjiaa.W

theorem cmpS_swap (a b : Int) : cmpS b a = -cmpS a b := by
  unfold cmpS
  rcases Int.lt_trichotomy a b with h | h | h
  · rw [if_pos h, if_neg (by omega), if_neg (by omega)]; rfl
  · subst h; rw [if_neg (by omega), if_pos rfl]; rfl
  · rw [if_pos h, if_neg (by omega), if_neg (by omega)]
theorem cmpS_in (a b : Int) : cmpS a b = -1 ∧ a < b ∨ cmpS a b = 0 ∧ a = b ∨ cmpS a b = 1 ∧ b < a := by
  unfold cmpS
  rcases Int.lt_trichotomy a b with h | h | h
  · rw [if_pos h]; exact Or.inl ⟨rfl, h⟩
  · rw [if_neg (by omega), if_pos h]; exact Or.inr (Or.inl ⟨rfl, h⟩)
  · rw [if_neg (by omega), if_neg (by omega)]; exact Or.inr (Or.inr ⟨rfl, h⟩)
theorem cmpB_num {P Q x y : Int} (hx : oK P Q x ≠ 3) (hy : oK P Q y ≠ 3) : cmpB P Q x y = cmpS (sc P Q x) (sc P Q y) := by
  unfold cmpB
  rw [if_neg (by omega)]
theorem cmpB_nan {P Q x y : Int} (h : oK P Q x = 3 ∨ oK P Q y = 3) : cmpB P Q x y = 2 := by
  unfold cmpB
  rw [if_pos h]
end Go.Proofs.Ytepdmpcgkecjiaa
namespace Go.Proofs.Ytepdmpcgkecjiaa
open Go.RowKit
open Go.Proofs.Ytepdmpcgkecjiaa.W

set_option maxRecDepth 100000 in
set_option maxHeartbeats 2000000 in
theorem sign_z {K X S : Int} {n : Bool} (W : World) (h : (K == 0) = true) :
    Calls Try.prog 59 #[.agg #[.bool n, .int .i64 K, .int .i64 X, .int .u64 S]] W fun r W' => r = .returned (.int .i64 0) ∧ Below W.heap.size W W' := by
  go_enter Try.func59, Try.ntmps59
  go_wp2
  go_ret
  exact ⟨rfl, below1 _ _⟩
set_option maxRecDepth 100000 in
set_option maxHeartbeats 2000000 in
theorem sign_m {K X S : Int} (W : World) (h : (K == 0) = false) :
    Calls Try.prog 59 #[.agg #[.bool true, .int .i64 K, .int .i64 X, .int .u64 S]] W fun r W' => r = .returned (.int .i64 (-1)) ∧ Below W.heap.size W W' := by
  go_enter Try.func59, Try.ntmps59
  go_wp2
  go_ret
  exact ⟨rfl, below1 _ _⟩
set_option maxRecDepth 100000 in
set_option maxHeartbeats 2000000 in
theorem sign_p {K X S : Int} (W : World) (h : (K == 0) = false) :
    Calls Try.prog 59 #[.agg #[.bool false, .int .i64 K, .int .i64 X, .int .u64 S]] W fun r W' => r = .returned (.int .i64 1) ∧ Below W.heap.size W W' := by
  go_enter Try.func59, Try.ntmps59
  go_wp2
  go_ret
  exact ⟨rfl, below1 _ _⟩

end Go.Proofs.Ytepdmpcgkecjiaa
namespace Go.Proofs.Ytepdmpcgkecjiaa
open Go.RowKit
open Go.Proofs.Ytepdmpcgkecjiaa.W

set_option maxRecDepth 100000 in
set_option maxHeartbeats 2000000 in
theorem cmp_n1 {w x y K1 X1 S1 K2 X2 S2 : Int} {n1 n2 : Bool} (W : World) (HO1 : Hid (∀ W, Calls Try.prog 14 #[.int .i64 w, .int .u64 x] W fun r W' => r = .returned (.agg #[.bool n1, .int .i64 K1, .int .i64 X1, .int .u64 S1]) ∧ Below W.heap.size W W')) (HO2 : Hid (∀ W, Calls Try.prog 14 #[.int .i64 w, .int .u64 y] W fun r W' => r = .returned (.agg #[.bool n2, .int .i64 K2, .int .i64 X2, .int .u64 S2]) ∧ Below W.heap.size W W')) (a3 : (K1 == 3) = true) :
    Calls Try.prog 24 #[.int .i64 w, .int .u64 x, .int .u64 y] W fun r W' => r = .returned (.int .i64 2) ∧ Below W.heap.size W W' := by
  go_enter Try.func24, Try.ntmps24
  go_wp2_with fail
  refine (unhide HO1 _).mono ?_
  rintro _ w1 ⟨rfl, hb⟩
  have HB := hide (balloc hb (.cells #[.bool n1, .int .i64 K1, .int .i64 X1, .int .u64 S1] 30))
  have HA := hide (at4_new w1 (.bool n1) (.int .i64 K1) (.int .i64 X1) (.int .u64 S1) 30)
  clear hb
  go_wp2_with fail
  refine (unhide HO2 _).mono ?_
  rintro _ w2 ⟨rfl, hb⟩
  have HB := hide (balloc (bthen (unhide HB) hb) (.cells #[.bool n2, .int .i64 K2, .int .i64 X2, .int .u64 S2] 30))
  have HA := hide (((unhide HA).below hb).below (below1 w2 (.cells #[.bool n2, .int .i64 K2, .int .i64 X2, .int .u64 S2] 30)))
  have H1 := hide (at4_new w2 (.bool n2) (.int .i64 K2) (.int .i64 X2) (.int .u64 S2) 30)
  clear hb
  obtain ⟨c0, c1, c2, c3⟩ := unhide HA
  obtain ⟨d0, d1, d2, d3⟩ := unhide H1
  go_wp2_with fail
  go_ret
  exact ⟨rfl, unhide HB⟩
set_option maxRecDepth 100000 in
set_option maxHeartbeats 2000000 in
theorem cmp_n2 {w x y K1 X1 S1 K2 X2 S2 : Int} {n1 n2 : Bool} (W : World) (HO1 : Hid (∀ W, Calls Try.prog 14 #[.int .i64 w, .int .u64 x] W fun r W' => r = .returned (.agg #[.bool n1, .int .i64 K1, .int .i64 X1, .int .u64 S1]) ∧ Below W.heap.size W W')) (HO2 : Hid (∀ W, Calls Try.prog 14 #[.int .i64 w, .int .u64 y] W fun r W' => r = .returned (.agg #[.bool n2, .int .i64 K2, .int .i64 X2, .int .u64 S2]) ∧ Below W.heap.size W W')) (a3 : (K1 == 3) = false) (b3 : (K2 == 3) = true) :
    Calls Try.prog 24 #[.int .i64 w, .int .u64 x, .int .u64 y] W fun r W' => r = .returned (.int .i64 2) ∧ Below W.heap.size W W' := by
  go_enter Try.func24, Try.ntmps24
  go_wp2_with fail
  refine (unhide HO1 _).mono ?_
  rintro _ w1 ⟨rfl, hb⟩
  have HB := hide (balloc hb (.cells #[.bool n1, .int .i64 K1, .int .i64 X1, .int .u64 S1] 30))
  have HA := hide (at4_new w1 (.bool n1) (.int .i64 K1) (.int .i64 X1) (.int .u64 S1) 30)
  clear hb
  go_wp2_with fail
  refine (unhide HO2 _).mono ?_
  rintro _ w2 ⟨rfl, hb⟩
  have HB := hide (balloc (bthen (unhide HB) hb) (.cells #[.bool n2, .int .i64 K2, .int .i64 X2, .int .u64 S2] 30))
  have HA := hide (((unhide HA).below hb).below (below1 w2 (.cells #[.bool n2, .int .i64 K2, .int .i64 X2, .int .u64 S2] 30)))
  have H1 := hide (at4_new w2 (.bool n2) (.int .i64 K2) (.int .i64 X2) (.int .u64 S2) 30)
  clear hb
  obtain ⟨c0, c1, c2, c3⟩ := unhide HA
  obtain ⟨d0, d1, d2, d3⟩ := unhide H1
  go_wp2_with fail
  go_ret
  exact ⟨rfl, unhide HB⟩
set_option maxRecDepth 100000 in
set_option maxHeartbeats 2000000 in
theorem cmp_lt {w x y K1 X1 S1 K2 X2 S2 s1 s2 : Int} {n1 n2 : Bool} (W : World) (HO1 : Hid (∀ W, Calls Try.prog 14 #[.int .i64 w, .int .u64 x] W fun r W' => r = .returned (.agg #[.bool n1, .int .i64 K1, .int .i64 X1, .int .u64 S1]) ∧ Below W.heap.size W W')) (HO2 : Hid (∀ W, Calls Try.prog 14 #[.int .i64 w, .int .u64 y] W fun r W' => r = .returned (.agg #[.bool n2, .int .i64 K2, .int .i64 X2, .int .u64 S2]) ∧ Below W.heap.size W W')) (a3 : (K1 == 3) = false) (b3 : (K2 == 3) = false) (HS1 : Hid (∀ W, Calls Try.prog 59 #[.agg #[.bool n1, .int .i64 K1, .int .i64 X1, .int .u64 S1]] W fun r W' => r = .returned (.int .i64 s1) ∧ Below W.heap.size W W')) (HS2 : Hid (∀ W, Calls Try.prog 59 #[.agg #[.bool n2, .int .i64 K2, .int .i64 X2, .int .u64 S2]] W fun r W' => r = .returned (.int .i64 s2) ∧ Below W.heap.size W W')) (h1 : s1 < s2) :
    Calls Try.prog 24 #[.int .i64 w, .int .u64 x, .int .u64 y] W fun r W' => r = .returned (.int .i64 (-1)) ∧ Below W.heap.size W W' := by
  go_enter Try.func24, Try.ntmps24
  go_wp2_with fail
  refine (unhide HO1 _).mono ?_
  rintro _ w1 ⟨rfl, hb⟩
  have HB := hide (balloc hb (.cells #[.bool n1, .int .i64 K1, .int .i64 X1, .int .u64 S1] 30))
  have HA := hide (at4_new w1 (.bool n1) (.int .i64 K1) (.int .i64 X1) (.int .u64 S1) 30)
  clear hb
  go_wp2_with fail
  refine (unhide HO2 _).mono ?_
  rintro _ w2 ⟨rfl, hb⟩
  have HB := hide (balloc (bthen (unhide HB) hb) (.cells #[.bool n2, .int .i64 K2, .int .i64 X2, .int .u64 S2] 30))
  have HA := hide (((unhide HA).below hb).below (below1 w2 (.cells #[.bool n2, .int .i64 K2, .int .i64 X2, .int .u64 S2] 30)))
  have H1 := hide (at4_new w2 (.bool n2) (.int .i64 K2) (.int .i64 X2) (.int .u64 S2) 30)
  clear hb
  obtain ⟨c0, c1, c2, c3⟩ := unhide HA
  obtain ⟨d0, d1, d2, d3⟩ := unhide H1
  go_wp2_with fail
  clear c0 c1 c2 c3 d0 d1 d2 d3
  have HB := hide (unhide HB).drew
  have HA := hide ((unhide HA).below ((Below.refl _ _).drew))
  have H1 := hide ((unhide H1).below ((Below.refl _ _).drew))
  refine wp_region_held_drew (S := fun w' => (w'.cell? ⟨w1.heap.size, 0, none⟩ = some (.bool n1) ∧ w'.cell? ⟨w1.heap.size, 1, none⟩ = some (.int .i64 K1) ∧ w'.cell? ⟨w1.heap.size, 2, none⟩ = some (.int .i64 X1) ∧ w'.cell? ⟨w1.heap.size, 3, none⟩ = some (.int .u64 S1)) ∧ (w'.cell? ⟨w2.heap.size, 0, none⟩ = some (.bool n2) ∧ w'.cell? ⟨w2.heap.size, 1, none⟩ = some (.int .i64 K2) ∧ w'.cell? ⟨w2.heap.size, 2, none⟩ = some (.int .i64 X2) ∧ w'.cell? ⟨w2.heap.size, 3, none⟩ = some (.int .u64 S2))) (by kernel_rfl) ?_ (fun hHeld => ?_)
  · (try dsimp only)
    exact ⟨unhide HA, unhide H1⟩
  refine lst0 5 (by kernel_rfl) ?_
  refine tkH 0 25 1 ?v0a rfl (by kernel_rfl) (by kernel_rfl) (fun _ _ _ h => h) (by assumption) (Or.inl ⟨by rfl, ?y0a⟩) ?_
  case y0a => ((intro w hSw; (try dsimp only at hSw); go_simp) <;> with_reducible rfl)
  (try simp only [Act.put, List.setIfInBounds_toArray, List.set_cons_zero, List.set_cons_succ])
  refine tkH 2 27 5 ?v2a rfl (by kernel_rfl) (by kernel_rfl) (fun _ _ _ h => h) (by assumption) (Or.inl ⟨by rfl, ?y2a⟩) ?_
  case y2a => ((intro w hSw; (try dsimp only at hSw); go_simp) <;> with_reducible rfl)
  (try simp only [Act.put, List.setIfInBounds_toArray, List.set_cons_zero, List.set_cons_succ])
  refine rdH 1 7 rfl (by kernel_rfl) (by kernel_rfl) (fun Kk hKk => ?_)
  go_simp
  refine (unhide HS1 _).mono ?_
  rintro _ w3 ⟨rfl, hb⟩
  have HB := hide (bthen (unhide HB) hb)
  have HA := hide ((unhide HA).below hb)
  have H1 := hide ((unhide H1).below hb)
  clear hb
  (try go_wp2_with fail)
  refine hKk.out _ _ ?_ (fun hHeld => ?_)
  · (try dsimp only)
    exact ⟨unhide HA, unhide H1⟩
  clear hKk Kk
  (try simp only [List.setIfInBounds_toArray, List.set_cons_zero, List.set_cons_succ])
  refine rdH 3 15 rfl (by kernel_rfl) (by kernel_rfl) (fun Kk hKk => ?_)
  go_simp
  refine (unhide HS2 _).mono ?_
  rintro _ w4 ⟨rfl, hb⟩
  have HB := hide (bthen (unhide HB) hb)
  have HA := hide ((unhide HA).below hb)
  have H1 := hide ((unhide H1).below hb)
  clear hb
  (try go_wp2_with fail)
  refine hKk.out _ _ ?_ (fun hHeld => ?_)
  · (try dsimp only)
    exact ⟨unhide HA, unhide H1⟩
  clear hKk Kk
  (try simp only [List.setIfInBounds_toArray, List.set_cons_zero, List.set_cons_succ])
  refine tkH 4 29 31 ?v4a rfl (by kernel_rfl) (by kernel_rfl) (fun _ _ _ h => h) (by assumption) (Or.inl ⟨by rfl, ?y4a⟩) ?_
  case y4a => ((intro w hSw; (try dsimp only at hSw); go_simp) <;> with_reducible rfl)
  (try simp only [Act.put, List.setIfInBounds_toArray, List.set_cons_zero, List.set_cons_succ])
  refine wpAnyH_done (by kernel_rfl) ?_ _
  clear hHeld
  obtain ⟨c0, c1, c2, c3⟩ := unhide HA
  obtain ⟨d0, d1, d2, d3⟩ := unhide H1
  go_wp2_with fail
  go_ret
  exact ⟨rfl, unhide HB⟩

end Go.Proofs.Ytepdmpcgkecjiaa
namespace Go.Proofs.Ytepdmpcgkecjiaa
open Go.ChangeShapes Go.WideShapes Go.ChangeAt Go.RowKit Go.Joins
open Go.Proofs.Ytepdmpcgkecjiaa.W

theorem Try.own : ownKnob Try.prog.godebug = none := by kernel_rfl
theorem word_of_wf {x : Int} (h : (Lit.int .u64 x).wf = true) : 0 ≤ x ∧ x < 18446744073709551616 := by
  simp [Lit.wf, IntKind.min, IntKind.max, IntKind.signed, IntKind.bits] at h
  exact ⟨by omega, by omega⟩

end Go.Proofs.Ytepdmpcgkecjiaa
