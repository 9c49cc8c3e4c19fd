/- WhA. -/
import Derived.Test.YtepdmpcgkecjiaaG08
import Derived.Test.YtepdmpcgkecjiaaG21
import Derived.Test.YtepdmpcgkecjiaaG25
namespace Go.Proofs.Ytepdmpcgkecjiaa
open Go.RowKit
open Go.Proofs.Ytepdmpcgkecjiaa.W

theorem lstm {P : Program} {ops : Array Oper} {Q : Exit → Act → World → Prop} {md : Region.Mode} {S : World → Prop} (n m : Nat) {fuel : Nat} {listed : Array Bool} {a : Act} {w : World} (h : listed = lst n m) (k : wpAnyH P md ops Q S fuel (lst n m) a w) : wpAnyH P md ops Q S fuel listed a w := h ▸ k
theorem fresh_room2 {N b : Nat} {v0 v1 : Value} {w : World} (h : Fresh N #[v0, v1] b w) : Room b 2 w := fun o ho => by
  refine ⟨?_, h.thawed o⟩
  match o, ho with
  | 0, _ => exact ⟨_, h.cell 0 _ rfl⟩
  | 1, _ => exact ⟨_, h.cell 1 _ rfl⟩
theorem at2_set2 {b : Nat} {w : World} (h : Room b 2 w) (v0 v1 : Value) : At2 b v0 v1 ((w.setCell ⟨b, 0, none⟩ v0).setCell ⟨b, 1, none⟩ v1) := by
  obtain ⟨⟨u0, h0⟩, _⟩ := h 0 (by omega)
  obtain ⟨⟨u1, h1⟩, _⟩ := (h.set 0 v0) 1 (by omega)
  exact ⟨set_off _ (by omega) (World.cell?_setCell_same _ _ _ h0), World.cell?_setCell_same _ _ _ h1⟩
theorem bset2 {a b : World} {c : Nat} (h : Below a.heap.size a b) (hc : a.heap.size ≤ c) (v0 v1 : Value) : Below a.heap.size a ((b.setCell ⟨c, 0, none⟩ v0).setCell ⟨c, 1, none⟩ v1) := bset (bset h _ hc _ _) _ hc _ _
theorem bset3 {a b : World} {c : Nat} (h : Below a.heap.size a b) (hc : a.heap.size ≤ c) (v0 v1 v2 : Value) : Below a.heap.size a (((b.setCell ⟨c, 0, none⟩ v0).setCell ⟨c, 1, none⟩ v1).setCell ⟨c, 2, none⟩ v2) := bset (bset2 h hc _ _) _ hc _ _
theorem At4.set2 {b c : Nat} {x y z u : Value} {w : World} (h : At4 b x y z u w) (hc : b ≠ c) (v0 v1 : Value) : At4 b x y z u ((w.setCell ⟨c, 0, none⟩ v0).setCell ⟨c, 1, none⟩ v1) := (h.set hc _ _).set hc _ _
theorem At2.set3 {b c : Nat} {x y : Value} {w : World} (h : At2 b x y w) (hc : b ≠ c) (v0 v1 v2 : Value) : At2 b x y (((w.setCell ⟨c, 0, none⟩ v0).setCell ⟨c, 1, none⟩ v1).setCell ⟨c, 2, none⟩ v2) := ((h.set hc _ _).set hc _ _).set hc _ _
theorem Room.off {b c n : Nat} {w : World} (h : Room b n w) (hc : b ≠ c) (o' : Nat) (v : Value) : Room b n (w.setCell ⟨c, o', none⟩ v) := fun o ho => by
  obtain ⟨⟨u, h1⟩, h2⟩ := h o ho
  exact ⟨⟨u, keep_set c o' v hc h1⟩, by rw [frozen_set]; exact h2⟩
set_option maxRecDepth 100000 in
set_option maxHeartbeats 2000000 in
theorem broken_l {K1 X1 S1 h l h' l' E : Int} {n1 t : Bool} (W : World) (HO : Hid (∀ W, Calls Try.prog 63 #[.int .u64 S1] W fun r W' => r = .returned (.agg #[.int .u64 h, .int .u64 l]) ∧ Below W.heap.size W W')) (kx : IntKind.i64.wrap (-X1) = E) (HR : Hid (∀ W, Calls Try.prog 69 #[.agg #[.int .u64 h, .int .u64 l], .int .i64 E] W fun r W' => r = .returned (.tuple #[.agg #[.int .u64 h', .int .u64 l'], .bool t]) ∧ Below W.heap.size W W')) :
    Calls Try.prog 37 #[.agg #[.bool n1, .int .i64 K1, .int .i64 X1, .int .u64 S1]] W fun r W' => r = .returned (.bool t) ∧ Below W.heap.size W W' := by
  go_enter Try.func37, Try.ntmps37
  go_wp2_with fail
  have HB := hide (below1 W (.cells #[.bool n1, .int .i64 K1, .int .i64 X1, .int .u64 S1] 36)).drew
  have HA := hide ((at4_new W (.bool n1) (.int .i64 K1) (.int .i64 X1) (.int .u64 S1) 36).below ((Below.refl _ _).drew))
  refine wp_region_held_drew (S := fun w' => (w'.cell? ⟨W.heap.size, 0, none⟩ = some (.bool n1) ∧ w'.cell? ⟨W.heap.size, 1, none⟩ = some (.int .i64 K1) ∧ w'.cell? ⟨W.heap.size, 2, none⟩ = some (.int .i64 X1) ∧ w'.cell? ⟨W.heap.size, 3, none⟩ = some (.int .u64 S1))) (by kernel_rfl) ?_ (fun hHeld => ?_)
  · (try dsimp only)
    exact unhide HA
  refine wo_start (N := W.heap.size + 1) (i1 := 10) (d1 := 3) (v1 := #[.int .u64 0, .int .u64 0]) (t1 := 77) (f := 2) (n := 10) (T := fun w' => Below W.heap.size W w') (by kernel_rfl) (by kernel_rfl) (fun _ _ _ _ _ h => h) (stable_at4 _ _ _ _ _) ?_ (stable_below W) hHeld (unhide HB) (by simp) ?_
  · intro a w K h
    unfold wpOp
    go_simp
    exact Or.inl h
  clear hHeld
  refine wo_take (i := 0) (oi := { dst := some 6, op := _, type := _, pos := _, after := _, guard := _ }) rfl (by kernel_rfl) (by kernel_rfl) (fun _ _ _ h => h) (Or.inl ⟨by rfl, fun w hSw => by (try dsimp only at hSw); go_simp; with_reducible rfl⟩) ?_
  (try simp only [Act.put, List.setIfInBounds_toArray, List.set_cons_zero, List.set_cons_succ])
  refine wo_take (i := 1) (oi := { dst := some 7, op := _, type := _, pos := _, after := _, guard := _ }) rfl (by kernel_rfl) (by kernel_rfl) (fun _ _ _ h => h) (Or.inl ⟨by rfl, fun w hSw => by (try dsimp only at hSw); go_simp; with_reducible rfl⟩) ?_
  (try simp only [Act.put, List.setIfInBounds_toArray, List.set_cons_zero, List.set_cons_succ])
  refine wo_take (i := 3) (oi := { dst := some 9, op := _, type := _, pos := _, after := _, guard := _ }) rfl (by kernel_rfl) (by kernel_rfl) (fun _ _ _ h => h) (Or.inl ⟨by rfl, fun w hSw => by (try dsimp only at hSw); go_simp; with_reducible rfl⟩) ?_
  (try simp only [Act.put, List.setIfInBounds_toArray, List.set_cons_zero, List.set_cons_succ])
  refine wo_take (i := 4) (oi := { dst := some 10, op := _, type := _, pos := _, after := _, guard := _ }) rfl (by kernel_rfl) (by kernel_rfl) (fun _ _ _ h => h) (Or.inl ⟨by rfl, fun w hSw => by (try dsimp only at hSw); go_simp; with_reducible rfl⟩) ?_
  (try simp only [Act.put, List.setIfInBounds_toArray, List.set_cons_zero, List.set_cons_succ])
  refine wo_take (i := 5) (oi := { dst := some 11, op := _, type := _, pos := _, after := _, guard := _ }) rfl (by kernel_rfl) (by kernel_rfl) (fun _ _ _ h => h) (Or.inl ⟨by rfl, fun w hSw => by (try dsimp only at hSw); go_simp; with_reducible rfl⟩) ?_
  (try simp only [Act.put, List.setIfInBounds_toArray, List.set_cons_zero, List.set_cons_succ])
  refine wo_call (c := 2) (o := { dst := some 8, op := _, type := _, pos := _, after := _, guard := _ }) rfl (by kernel_rfl) (by kernel_rfl) (fun u hSu hTu Kk hKk => ?_)
  go_simp
  refine (unhide HO _).mono ?_
  rintro _ wn ⟨rfl, hbl⟩
  have HTn := hide (bthen hTu hbl)
  clear hTu hSu
  (try go_wp2_with fail)
  refine hKk.out _ _ (fun w' => Below W.heap.size W w') (by assumption) (stable_below W) (unhide HTn) ?_
  clear hKk Kk HTn
  (try simp only [Act.put, List.setIfInBounds_toArray, List.set_cons_zero, List.set_cons_succ])
  refine wo_call (c := 6) (o := { dst := some 12, op := _, type := _, pos := _, after := _, guard := _ }) rfl (by kernel_rfl) (by kernel_rfl) (fun u hSu hTu Kk hKk => ?_)
  go_simp
  refine (unhide HR _).mono ?_
  rintro _ wn ⟨rfl, hbl⟩
  have HTn := hide (bthen hTu hbl)
  clear hTu hSu
  (try go_wp2_with fail)
  refine hKk.out _ _ (fun w' => Below W.heap.size W w') (by assumption) (stable_below W) (unhide HTn) ?_
  clear hKk Kk HTn
  (try simp only [Act.put, List.setIfInBounds_toArray, List.set_cons_zero, List.set_cons_succ])
  refine wo_take (i := 7) (oi := { dst := some 5, op := _, type := _, pos := _, after := _, guard := _ }) rfl (by kernel_rfl) (by kernel_rfl) (fun _ _ _ h => h) (Or.inl ⟨by rfl, fun w hSw => by (try dsimp only at hSw); go_simp; with_reducible rfl⟩) ?_
  (try simp only [Act.put, List.setIfInBounds_toArray, List.set_cons_zero, List.set_cons_succ])
  refine wo_take (i := 8) (oi := { dst := some 13, op := _, type := _, pos := _, after := _, guard := _ }) rfl (by kernel_rfl) (by kernel_rfl) (fun _ _ _ h => h) (Or.inl ⟨by rfl, fun w hSw => by (try dsimp only at hSw); go_simp; with_reducible rfl⟩) ?_
  (try simp only [Act.put, List.setIfInBounds_toArray, List.set_cons_zero, List.set_cons_succ])
  refine wo_take (i := 9) (oi := { dst := some 14, op := _, type := _, pos := _, after := _, guard := _ }) rfl (by kernel_rfl) (by kernel_rfl) (fun _ _ _ h => h) (Or.inl ⟨by rfl, fun w hSw => by (try dsimp only at hSw); go_simp; with_reducible rfl⟩) ?_
  (try simp only [Act.put, List.setIfInBounds_toArray, List.set_cons_zero, List.set_cons_succ])
  refine wo_fin (by kernel_rfl) (fun wf b1 hSu hTu k1 => ?_)
  (try simp only [Act.put, List.setIfInBounds_toArray, List.set_cons_zero, List.set_cons_succ])
  unfold ptr
  have zb := k1.base
  have HRm := hide (fresh_room2 k1)
  obtain ⟨⟨v0, c0⟩, f0⟩ := (unhide HRm) 0 (by omega)
  obtain ⟨⟨v1, c1⟩, f1⟩ := (unhide HRm) 1 (by omega)
  refine lstm 13 2047 (by kernel_rfl) ?_
  refine rdH 11 4095 rfl (by kernel_rfl) (by kernel_rfl) (fun Kk hKk => ?_)
  go_simp
  refine hKk.out _ _ ?_ (fun hHeld => ?_)
  · (try dsimp only)
    exact At4.set2 hSu (by omega) _ _
  clear hKk Kk
  (try simp only [Act.put, List.setIfInBounds_toArray, List.set_cons_zero, List.set_cons_succ])
  refine tkH 12 4 8191 ?v12 rfl (by kernel_rfl) (by kernel_rfl) (fun _ _ _ h => h) (by assumption) (Or.inl ⟨by rfl, ?y12⟩) ?_
  case y12 => ((intro w hSw; (try dsimp only at hSw); go_simp) <;> with_reducible rfl)
  (try simp only [Act.put, List.setIfInBounds_toArray, List.set_cons_zero, List.set_cons_succ])
  refine wpAnyH_done (by kernel_rfl) ?_ _
  have HB := hide (bset2 (c := b1) hTu (by omega) (.int .u64 h') (.int .u64 l'))
  clear hHeld hSu hTu k1 c0 c1 f0 f1
  generalize (wf.setCell ⟨b1, 0, none⟩ (.int .u64 h')).setCell ⟨b1, 1, none⟩ (.int .u64 l') = wx at *
  go_wp2_with fail
  go_ret
  exact ⟨rfl, unhide HB⟩

end Go.Proofs.Ytepdmpcgkecjiaa
