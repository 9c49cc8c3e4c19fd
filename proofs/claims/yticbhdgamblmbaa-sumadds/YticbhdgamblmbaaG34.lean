/- ExB. -/
import Derived.Test.YticbhdgamblmbaaG31
namespace Go.Proofs.Yticbhdgamblmbaa
open Go.RowKit
open Go.Proofs.Yticbhdgamblmbaa.W

set_option maxRecDepth 100000 in
set_option maxHeartbeats 4000000 in
theorem exsum_samea {w K1 X1 S1 K2 X2 S2 V : Int} {n1 n2 : Bool} {d1 d2 : Nat} (W : World) (hm : X1 ≤ X2) (HS : Hid (0 ≤ S1 ∧ S1 < 18446744073709551616 ∧ S1.toNat < pw 2 ∧ 0 ≤ S2 ∧ S2 < 18446744073709551616 ∧ S2.toNat < pw 2))
    (HD : Hid (IntKind.i64.wrap 0 = (d1 : Int) ∧ d1 ≤ 10000 ∧ IntKind.i64.wrap (X2 - X1) = (d2 : Int) ∧ d2 ≤ 10000)) (hn : (n1 == n2) = true) (H3 : Hid ((S1.toNat * 2 ^ d1) < pw 300 ∧ (S2.toNat * 2 ^ d2) < pw 300)) (HE : Hid (∀ (a : Option Addr) (m c : Nat) (W : World), IsNat W (.slice a m c) ((S1.toNat * 2 ^ d1) + (S2.toNat * 2 ^ d2)) → Calls Try.prog 55 #[.int .i64 w, .bool n1, .agg #[.slice a m c], .int .i64 X1] W fun r W' => r = .returned (.int .u64 V) ∧ Below W.heap.size W W')) :
    Calls Try.prog 46 #[.int .i64 w, .agg #[.bool n1, .int .i64 K1, .int .i64 X1, .int .u64 S1], .agg #[.bool n2, .int .i64 K2, .int .i64 X2, .int .u64 S2]] W fun r W' => r = .returned (.int .u64 V) ∧ Below W.heap.size W W' := by
  go_enter Try.func46, Try.ntmps46
  go_wp2_with fail
  have HB := hide ((below2 W (.cells #[.bool n1, .int .i64 K1, .int .i64 X1, .int .u64 S1] 41) (.cells #[.bool n2, .int .i64 K2, .int .i64 X2, .int .u64 S2] 41)).drew)
  have HA := hide (And.intro ((at4_new2a W (.bool n1) (.int .i64 K1) (.int .i64 X1) (.int .u64 S1) 41 (.cells #[.bool n2, .int .i64 K2, .int .i64 X2, .int .u64 S2] 41)).below ((Below.refl _ _).drew)) ((at4_new2b W (.cells #[.bool n1, .int .i64 K1, .int .i64 X1, .int .u64 S1] 41) (.bool n2) (.int .i64 K2) (.int .i64 X2) (.int .u64 S2) 41).below ((Below.refl _ _).drew)))
  refine wp_region_held_drew (S := fun w' => (w'.cell? ⟨W.heap.size, 0, none⟩ = some (.bool n1) ∧ w'.cell? ⟨W.heap.size, 1, none⟩ = some (.int .i64 K1) ∧ w'.cell? ⟨W.heap.size, 2, none⟩ = some (.int .i64 X1) ∧ w'.cell? ⟨W.heap.size, 3, none⟩ = some (.int .u64 S1)) ∧ (w'.cell? ⟨W.heap.size + 1, 0, none⟩ = some (.bool n2) ∧ w'.cell? ⟨W.heap.size + 1, 1, none⟩ = some (.int .i64 K2) ∧ w'.cell? ⟨W.heap.size + 1, 2, none⟩ = some (.int .i64 X2) ∧ w'.cell? ⟨W.heap.size + 1, 3, none⟩ = some (.int .u64 S2))) (by kernel_rfl) ?_ (fun hHeld => ?_)
  · (try dsimp only)
    exact unhide HA
  refine wo_start (N := W.heap.size + 1 + 1) (i1 := 8) (d1 := 8) (v1 := #[.slice none 0 0]) (t1 := 65) (f := 1) (n := 8) (T := fun w' => Below W.heap.size W w') (by kernel_rfl) (by kernel_rfl) (fun _ _ _ _ _ h => h) (stable_and (stable_at4 _ _ _ _ _) (stable_at4 _ _ _ _ _)) ?_ (stable_below W) hHeld (unhide HB) (by simp) ?_
  · intro a w K h
    unfold wpOp
    go_simp
    exact Or.inl h
  clear hHeld
  refine wo_take (i := 0) (oi := { dst := some 16, op := _, type := _, pos := _, after := _, guard := _ }) rfl (by kernel_rfl) (by kernel_rfl) (fun _ _ _ h => h) (Or.inl ⟨by rfl, fun w hSw => by (try dsimp only at hSw); go_simp; with_reducible rfl⟩) ?_
  (try simp only [Act.put, List.setIfInBounds_toArray, List.set_cons_zero, List.set_cons_succ])
  refine wo_take (i := 1) (oi := { dst := some 17, op := _, type := _, pos := _, after := _, guard := _ }) rfl (by kernel_rfl) (by kernel_rfl) (fun _ _ _ h => h) (Or.inl ⟨by rfl, fun w hSw => by (try dsimp only at hSw); go_simp; with_reducible rfl⟩) ?_
  (try simp only [Act.put, List.setIfInBounds_toArray, List.set_cons_zero, List.set_cons_succ])
  refine wo_take (i := 3) (oi := { dst := some 19, op := _, type := _, pos := _, after := _, guard := _ }) rfl (by kernel_rfl) (by kernel_rfl) (fun _ _ _ h => h) (Or.inl ⟨by rfl, fun w hSw => by (try dsimp only at hSw); go_simp; with_reducible rfl⟩) ?_
  (try simp only [Act.put, List.setIfInBounds_toArray, List.set_cons_zero, List.set_cons_succ])
  refine wo_take (i := 4) (oi := { dst := some 20, op := _, type := _, pos := _, after := _, guard := _ }) rfl (by kernel_rfl) (by kernel_rfl) (fun _ _ _ h => h) (Or.inl ⟨by rfl, fun w hSw => by (try dsimp only at hSw); go_simp; with_reducible rfl⟩) ?_
  (try simp only [Act.put, List.setIfInBounds_toArray, List.set_cons_zero, List.set_cons_succ])
  refine wo_take (i := 5) (oi := { dst := some 21, op := _, type := _, pos := _, after := _, guard := _ }) rfl (by kernel_rfl) (by kernel_rfl) (fun _ _ _ h => h) (Or.inl ⟨by rfl, fun w hSw => by (try dsimp only at hSw); go_simp; with_reducible rfl⟩) ?_
  (try simp only [Act.put, List.setIfInBounds_toArray, List.set_cons_zero, List.set_cons_succ])
  refine wo_take (i := 6) (oi := { dst := some 22, op := _, type := _, pos := _, after := _, guard := _ }) rfl (by kernel_rfl) (by kernel_rfl) (fun _ _ _ h => h) (Or.inl ⟨by rfl, fun w hSw => by (try dsimp only at hSw); go_simp; with_reducible rfl⟩) ?_
  (try simp only [Act.put, List.setIfInBounds_toArray, List.set_cons_zero, List.set_cons_succ])
  refine wo_call (c := 2) (o := { dst := some 18, op := _, type := _, pos := _, after := _, guard := _ }) rfl (by kernel_rfl) (by kernel_rfl) (fun u hSu hTu Kk hKk => ?_)
  go_simp
  refine (refOf_any S1 _ (unhide HS).1 (unhide HS).2.1).mono ?_
  rintro _ wn ⟨s1, rfl, hN1, hbl⟩
  obtain ⟨a1, m1, c1, rfl⟩ := hN1.slice
  have HTn := hide (And.intro (bthen hTu hbl) hN1)
  clear hTu hN1
  (try go_wp2_with fail)
  refine hKk.out _ _ (fun w' => Below W.heap.size W w' ∧ IsNat w' (.slice a1 m1 c1) S1.toNat) (by assumption) (stable_and (stable_below W) (stable_nat _ _)) (unhide HTn) ?_
  clear hKk Kk HTn
  (try simp only [Act.put, List.setIfInBounds_toArray, List.set_cons_zero, List.set_cons_succ])
  refine wo_call (c := 7) (o := { dst := some 23, op := _, type := _, pos := _, after := _, guard := _ }) rfl (by kernel_rfl) (by kernel_rfl) (fun u hSu hTu Kk hKk => ?_)
  go_simp
  refine (shl_k _ _ _ _ _ d1 _ (unhide HD).1 hTu.2 (unhide HS).2.2.1 (unhide HD).2.1).mono ?_
  rintro _ wn ⟨s2, rfl, hN2, hbl⟩
  obtain ⟨a2, m2, c2, rfl⟩ := hN2.slice
  have HTn := hide (And.intro (bthen hTu.1 hbl) hN2)
  clear hTu hN2
  (try go_wp2_with fail)
  refine hKk.out _ _ (fun w' => Below W.heap.size W w' ∧ IsNat w' (.slice a2 m2 c2) (S1.toNat * 2 ^ d1)) (by assumption) (stable_and (stable_below W) (stable_nat _ _)) (unhide HTn) ?_
  clear hKk Kk HTn
  (try simp only [Act.put, List.setIfInBounds_toArray, List.set_cons_zero, List.set_cons_succ])
  refine wo_fin (by kernel_rfl) (fun wf b1 hSu hTu k1 => ?_)
  (try simp only [Act.put, List.setIfInBounds_toArray, List.set_cons_zero, List.set_cons_succ])
  unfold ptr
  have zb := k1.base
  obtain ⟨f0, f1⟩ := fresh1 k1
  refine anyH_at #[true, true, true, true, true, true, true, true, true, false] (by kernel_rfl) ?_
  refine wpAnyH_ready (rs := [9]) (by kernel_rfl) (by simp) ?_
  refine AllReadyH.cons (o := { dst := none, op := _, type := _, pos := _, after := _, guard := _ }) rfl (fun Kk hKk => ?_) AllReadyH.nil
  go_simp
  refine hKk.out _ _ ?_ (fun hHeld => ?_)
  · (try dsimp only)
    exact ⟨At4.set hSu.1 (by omega) _ _, At4.set hSu.2 (by omega) _ _⟩
  clear hKk Kk
  refine wpAnyH_done (by kernel_rfl) ?_ _
  have HA := hide hHeld
  have HB := hide (bset hTu.1 b1 (by omega) 0 (.slice a2 m2 c2))
  have HM := hide (hTu.2.store f0 (.slice a2 m2 c2))
  have HC1 := hide (set_same1 f0 (.slice a2 m2 c2))
  have ZB := hide zb
  clear hHeld hSu hTu k1 f0 f1 zb
  generalize wf.setCell ⟨b1, 0, none⟩ (.slice a2 m2 c2) = wx at *
  go_wp2_with fail
  have HA := hide (And.intro (At4.below (unhide HA).1 ((Below.refl _ _).drew)) (At4.below (unhide HA).2 ((Below.refl _ _).drew)))
  have HB := hide ((unhide HB).drew)
  have HM := hide ((unhide HM).below ((Below.refl _ _).drew))
  have HC1 := hide (keep1 ((Below.refl _ _).drew) (lt_of_cell (unhide HC1)) (unhide HC1))
  have hz4 : b1 + 1 ≤ wx.drew.heap.size := lt_of_cell (unhide HC1)
  refine wp_region_held_drew (S := fun w' => (w'.cell? ⟨W.heap.size, 0, none⟩ = some (.bool n1) ∧ w'.cell? ⟨W.heap.size, 1, none⟩ = some (.int .i64 K1) ∧ w'.cell? ⟨W.heap.size, 2, none⟩ = some (.int .i64 X1) ∧ w'.cell? ⟨W.heap.size, 3, none⟩ = some (.int .u64 S1)) ∧ (w'.cell? ⟨W.heap.size + 1, 0, none⟩ = some (.bool n2) ∧ w'.cell? ⟨W.heap.size + 1, 1, none⟩ = some (.int .i64 K2) ∧ w'.cell? ⟨W.heap.size + 1, 2, none⟩ = some (.int .i64 X2) ∧ w'.cell? ⟨W.heap.size + 1, 3, none⟩ = some (.int .u64 S2)) ∧ w'.cell? ⟨b1, 0, none⟩ = some (.slice a2 m2 c2)) (by kernel_rfl) ?_ (fun hHeld => ?_)
  · (try dsimp only)
    exact ⟨(unhide HA).1, (unhide HA).2, unhide HC1⟩
  refine wo_start (N := b1 + 1) (i1 := 8) (d1 := 9) (v1 := #[.slice none 0 0]) (t1 := 65) (f := 1) (n := 8) (T := fun w' => Below W.heap.size W w' ∧ IsNat w' (.slice a2 m2 c2) (S1.toNat * 2 ^ d1)) (by kernel_rfl) (by kernel_rfl) (fun _ _ _ _ _ h => h) (stable_and (stable_at4 _ _ _ _ _) (stable_and (stable_at4 _ _ _ _ _) (stable_cell _ _))) ?_ (stable_and (stable_below W) (stable_nat _ _)) hHeld (⟨unhide HB, unhide HM⟩) (hz4) ?_
  · intro a w K h
    unfold wpOp
    go_simp
    exact Or.inl h
  clear hHeld
  refine wo_take (i := 0) (oi := { dst := some 24, op := _, type := _, pos := _, after := _, guard := _ }) rfl (by kernel_rfl) (by kernel_rfl) (fun _ _ _ h => h) (Or.inl ⟨by rfl, fun w hSw => by (try dsimp only at hSw); go_simp; with_reducible rfl⟩) ?_
  (try simp only [Act.put, List.setIfInBounds_toArray, List.set_cons_zero, List.set_cons_succ])
  refine wo_take (i := 1) (oi := { dst := some 25, op := _, type := _, pos := _, after := _, guard := _ }) rfl (by kernel_rfl) (by kernel_rfl) (fun _ _ _ h => h) (Or.inl ⟨by rfl, fun w hSw => by (try dsimp only at hSw); go_simp; with_reducible rfl⟩) ?_
  (try simp only [Act.put, List.setIfInBounds_toArray, List.set_cons_zero, List.set_cons_succ])
  refine wo_take (i := 3) (oi := { dst := some 27, op := _, type := _, pos := _, after := _, guard := _ }) rfl (by kernel_rfl) (by kernel_rfl) (fun _ _ _ h => h) (Or.inl ⟨by rfl, fun w hSw => by (try dsimp only at hSw); go_simp; with_reducible rfl⟩) ?_
  (try simp only [Act.put, List.setIfInBounds_toArray, List.set_cons_zero, List.set_cons_succ])
  refine wo_take (i := 4) (oi := { dst := some 28, op := _, type := _, pos := _, after := _, guard := _ }) rfl (by kernel_rfl) (by kernel_rfl) (fun _ _ _ h => h) (Or.inl ⟨by rfl, fun w hSw => by (try dsimp only at hSw); go_simp; with_reducible rfl⟩) ?_
  (try simp only [Act.put, List.setIfInBounds_toArray, List.set_cons_zero, List.set_cons_succ])
  refine wo_take (i := 5) (oi := { dst := some 29, op := _, type := _, pos := _, after := _, guard := _ }) rfl (by kernel_rfl) (by kernel_rfl) (fun _ _ _ h => h) (Or.inl ⟨by rfl, fun w hSw => by (try dsimp only at hSw); go_simp; with_reducible rfl⟩) ?_
  (try simp only [Act.put, List.setIfInBounds_toArray, List.set_cons_zero, List.set_cons_succ])
  refine wo_take (i := 6) (oi := { dst := some 30, op := _, type := _, pos := _, after := _, guard := _ }) rfl (by kernel_rfl) (by kernel_rfl) (fun _ _ _ h => h) (Or.inl ⟨by rfl, fun w hSw => by (try dsimp only at hSw); go_simp; with_reducible rfl⟩) ?_
  (try simp only [Act.put, List.setIfInBounds_toArray, List.set_cons_zero, List.set_cons_succ])
  refine wo_call (c := 2) (o := { dst := some 26, op := _, type := _, pos := _, after := _, guard := _ }) rfl (by kernel_rfl) (by kernel_rfl) (fun u hSu hTu Kk hKk => ?_)
  go_simp
  refine (refOf_any S2 _ (unhide HS).2.2.2.1 (unhide HS).2.2.2.2.1).mono ?_
  rintro _ wn ⟨s3, rfl, hN3, hbl⟩
  obtain ⟨a3, m3, c3, rfl⟩ := hN3.slice
  have HTn := hide (And.intro (bthen hTu.1 hbl) (And.intro (hTu.2.below hbl) hN3))
  clear hTu hN3
  (try go_wp2_with fail)
  refine hKk.out _ _ (fun w' => Below W.heap.size W w' ∧ IsNat w' (.slice a2 m2 c2) (S1.toNat * 2 ^ d1) ∧ IsNat w' (.slice a3 m3 c3) S2.toNat) (by assumption) (stable_and (stable_below W) (stable_and (stable_nat _ _) (stable_nat _ _))) (unhide HTn) ?_
  clear hKk Kk HTn
  (try simp only [Act.put, List.setIfInBounds_toArray, List.set_cons_zero, List.set_cons_succ])
  refine wo_call (c := 7) (o := { dst := some 31, op := _, type := _, pos := _, after := _, guard := _ }) rfl (by kernel_rfl) (by kernel_rfl) (fun u hSu hTu Kk hKk => ?_)
  go_simp
  refine (shl_k _ _ _ _ _ d2 _ (unhide HD).2.2.1 hTu.2.2 (unhide HS).2.2.2.2.2 (unhide HD).2.2.2).mono ?_
  rintro _ wn ⟨s4, rfl, hN4, hbl⟩
  obtain ⟨a4, m4, c4, rfl⟩ := hN4.slice
  have HTn := hide (And.intro (bthen hTu.1 hbl) (And.intro (hTu.2.1.below hbl) hN4))
  clear hTu hN4
  (try go_wp2_with fail)
  refine hKk.out _ _ (fun w' => Below W.heap.size W w' ∧ IsNat w' (.slice a2 m2 c2) (S1.toNat * 2 ^ d1) ∧ IsNat w' (.slice a4 m4 c4) (S2.toNat * 2 ^ d2)) (by assumption) (stable_and (stable_below W) (stable_and (stable_nat _ _) (stable_nat _ _))) (unhide HTn) ?_
  clear hKk Kk HTn
  (try simp only [Act.put, List.setIfInBounds_toArray, List.set_cons_zero, List.set_cons_succ])
  refine wo_fin (by kernel_rfl) (fun wf b2 hSu hTu k1 => ?_)
  (try simp only [Act.put, List.setIfInBounds_toArray, List.set_cons_zero, List.set_cons_succ])
  unfold ptr
  have zb := k1.base
  obtain ⟨f0, f1⟩ := fresh1 k1
  refine anyH_at #[true, true, true, true, true, true, true, true, true, false] (by kernel_rfl) ?_
  refine wpAnyH_ready (rs := [9]) (by kernel_rfl) (by simp) ?_
  refine AllReadyH.cons (o := { dst := none, op := _, type := _, pos := _, after := _, guard := _ }) rfl (fun Kk hKk => ?_) AllReadyH.nil
  go_simp
  refine hKk.out _ _ ?_ (fun hHeld => ?_)
  · (try dsimp only)
    exact ⟨At4.set hSu.1 (by have := unhide ZB; omega) _ _, At4.set hSu.2.1 (by have := unhide ZB; omega) _ _, keep_set _ _ _ (by omega) hSu.2.2⟩
  clear hKk Kk
  refine wpAnyH_done (by kernel_rfl) ?_ _
  have HK : Hid (ESt W b1 b2 n1 n2 K1 X1 S1 K2 X2 S2 (.slice a2 m2 c2) (.slice a4 m4 c4) (S1.toNat * 2 ^ d1) (S2.toNat * 2 ^ d2) (wf.setCell ⟨b2, 0, none⟩ (.slice a4 m4 c4))) :=
    { a1 := hHeld.1, a2 := hHeld.2.1, c1 := hHeld.2.2, c2 := set_same1 f0 _, m1 := hTu.2.1.store f0 _, m2 := hTu.2.2.store f0 _, bel := bset hTu.1 b2 (by have := unhide ZB; omega) 0 _ }
  clear hHeld hSu hTu k1 f0 f1 zb HA HB HM HC1 hz4
  generalize wf.setCell ⟨b2, 0, none⟩ (.slice a4 m4 c4) = wy at *
  have s0 := (unhide HK).a1.1
  have s1 := (unhide HK).a2.1
  have p0 := (unhide HK).c1
  have q0 := (unhide HK).c2
  go_wp2_with fail
  clear s0 s1 p0 q0
  have HK := hide ((unhide HK).below ((Below.refl _ _).drew))
  refine wp_region_held_drew (S := fun w' => (w'.cell? ⟨W.heap.size, 0, none⟩ = some (.bool n1) ∧ w'.cell? ⟨W.heap.size, 1, none⟩ = some (.int .i64 K1) ∧ w'.cell? ⟨W.heap.size, 2, none⟩ = some (.int .i64 X1) ∧ w'.cell? ⟨W.heap.size, 3, none⟩ = some (.int .u64 S1)) ∧ (w'.cell? ⟨W.heap.size + 1, 0, none⟩ = some (.bool n2) ∧ w'.cell? ⟨W.heap.size + 1, 1, none⟩ = some (.int .i64 K2) ∧ w'.cell? ⟨W.heap.size + 1, 2, none⟩ = some (.int .i64 X2) ∧ w'.cell? ⟨W.heap.size + 1, 3, none⟩ = some (.int .u64 S2)) ∧ w'.cell? ⟨b1, 0, none⟩ = some (.slice a2 m2 c2) ∧ w'.cell? ⟨b2, 0, none⟩ = some (.slice a4 m4 c4)) (by kernel_rfl) ?_ (fun hHeld => ?_)
  · (try dsimp only)
    exact ⟨(unhide HK).a1, (unhide HK).a2, (unhide HK).c1, (unhide HK).c2⟩
  refine anyH_at #[false, false, false, false, false, false, false, false, false] (by kernel_rfl) ?_
  refine wpAnyH_take (i := 0) (oi := { dst := some 37, op := _, type := _, pos := _, after := _, guard := _ }) (v := ?vv0z) rfl (by kernel_rfl) (by kernel_rfl) (by kernel_rfl) (fun _ _ _ h => h) (Or.inl ⟨by rfl, ?hy0z⟩) (by assumption) ?rest0z
  case hy0z => ((intro w hSw; (try dsimp only at hSw); go_simp) <;> with_reducible rfl)
  case rest0z =>
    (try simp only [Act.put, List.setIfInBounds_toArray, List.set_cons_zero, List.set_cons_succ])
    refine anyH_at #[true, false, false, false, false, false, false, false, false] (by kernel_rfl) ?_
    refine wpAnyH_take (i := 1) (oi := { dst := some 38, op := _, type := _, pos := _, after := _, guard := _ }) (v := ?vv1z) rfl (by kernel_rfl) (by kernel_rfl) (by kernel_rfl) (fun _ _ _ h => h) (Or.inl ⟨by rfl, ?hy1z⟩) (by assumption) ?rest1z
    case hy1z => ((intro w hSw; (try dsimp only at hSw); go_simp) <;> with_reducible rfl)
    case rest1z =>
      (try simp only [Act.put, List.setIfInBounds_toArray, List.set_cons_zero, List.set_cons_succ])
      refine anyH_at #[true, true, false, false, false, false, false, false, false] (by kernel_rfl) ?_
      refine wpAnyH_take (i := 2) (oi := { dst := some 39, op := _, type := _, pos := _, after := _, guard := _ }) (v := ?vv2z) rfl (by kernel_rfl) (by kernel_rfl) (by kernel_rfl) (fun _ _ _ h => h) (Or.inl ⟨by rfl, ?hy2z⟩) (by assumption) ?rest2z
      case hy2z => ((intro w hSw; (try dsimp only at hSw); go_simp) <;> with_reducible rfl)
      case rest2z =>
        (try simp only [Act.put, List.setIfInBounds_toArray, List.set_cons_zero, List.set_cons_succ])
        refine anyH_at #[true, true, true, false, false, false, false, false, false] (by kernel_rfl) ?_
        refine wpAnyH_take (i := 3) (oi := { dst := some 40, op := _, type := _, pos := _, after := _, guard := _ }) (v := ?vv3z) rfl (by kernel_rfl) (by kernel_rfl) (by kernel_rfl) (fun _ _ _ h => h) (Or.inl ⟨by rfl, ?hy3z⟩) (by assumption) ?rest3z
        case hy3z => ((intro w hSw; (try dsimp only at hSw); go_simp) <;> with_reducible rfl)
        case rest3z =>
          (try simp only [Act.put, List.setIfInBounds_toArray, List.set_cons_zero, List.set_cons_succ])
          refine anyH_at #[true, true, true, true, false, false, false, false, false] (by kernel_rfl) ?_
          refine wpAnyH_take (i := 4) (oi := { dst := some 41, op := _, type := _, pos := _, after := _, guard := _ }) (v := ?vv4z) rfl (by kernel_rfl) (by kernel_rfl) (by kernel_rfl) (fun _ _ _ h => h) (Or.inl ⟨by rfl, ?hy4z⟩) (by assumption) ?rest4z
          case hy4z => ((intro w hSw; (try dsimp only at hSw); go_simp) <;> with_reducible rfl)
          case rest4z =>
            (try simp only [Act.put, List.setIfInBounds_toArray, List.set_cons_zero, List.set_cons_succ])
            refine anyH_at #[true, true, true, true, true, false, false, false, false] (by kernel_rfl) ?_
            refine wpAnyH_take (i := 6) (oi := { dst := some 43, op := _, type := _, pos := _, after := _, guard := _ }) (v := ?vv6z) rfl (by kernel_rfl) (by kernel_rfl) (by kernel_rfl) (fun _ _ _ h => h) (Or.inl ⟨by rfl, ?hy6z⟩) (by assumption) ?rest6z
            case hy6z => ((intro w hSw; (try dsimp only at hSw); go_simp) <;> with_reducible rfl)
            case rest6z =>
              (try simp only [Act.put, List.setIfInBounds_toArray, List.set_cons_zero, List.set_cons_succ])
              refine anyH_at #[true, true, true, true, true, false, true, false, false] (by kernel_rfl) ?_
              refine wpAnyH_ready (rs := [5]) (by kernel_rfl) (by simp) ?_
              refine AllReadyH.cons (o := { dst := some 42, op := _, type := _, pos := _, after := _, guard := _ }) rfl (fun Kk hKk => ?_) AllReadyH.nil
              go_simp
              refine (add_k _ _ _ _ _ _ _ _ _ (unhide HK).m1 (unhide HK).m2 (unhide H3).1 (unhide H3).2).mono ?_
              rintro _ w5 ⟨s5, rfl, hN5, hbl⟩
              obtain ⟨a5, m5, c5, rfl⟩ := hN5.slice
              have HK := hide ((unhide HK).below hbl)
              have H5 := hide hN5
              clear hbl hN5
              (try go_wp2_with fail)
              refine hKk.out _ _ ?_ (fun hHeld => ?_)
              · (try dsimp only)
                exact ⟨(unhide HK).a1, (unhide HK).a2, (unhide HK).c1, (unhide HK).c2⟩
              clear hKk Kk
              (try simp only [List.setIfInBounds_toArray, List.set_cons_zero, List.set_cons_succ])
              refine anyH_at #[true, true, true, true, true, true, true, false, false] (by kernel_rfl) ?_
              refine wpAnyH_ready (rs := [7]) (by kernel_rfl) (by simp) ?_
              refine AllReadyH.cons (o := { dst := some 44, op := _, type := _, pos := _, after := _, guard := _ }) rfl (fun Kk hKk => ?_) AllReadyH.nil
              go_simp
              refine (unhide HE _ _ _ _ (unhide H5)).mono ?_
              rintro _ w6 ⟨rfl, hbl⟩
              have HK := hide ((unhide HK).below hbl)
              clear hbl
              (try go_wp2_with fail)
              refine hKk.out _ _ ?_ (fun hHeld => ?_)
              · (try dsimp only)
                exact ⟨(unhide HK).a1, (unhide HK).a2, (unhide HK).c1, (unhide HK).c2⟩
              clear hKk Kk
              (try simp only [List.setIfInBounds_toArray, List.set_cons_zero, List.set_cons_succ])
              refine anyH_at #[true, true, true, true, true, true, true, true, false] (by kernel_rfl) ?_
              refine wpAnyH_take (i := 8) (oi := { dst := some 6, op := _, type := _, pos := _, after := _, guard := _ }) (v := ?vv8z) rfl (by kernel_rfl) (by kernel_rfl) (by kernel_rfl) (fun _ _ _ h => h) (Or.inl ⟨by rfl, ?hy8z⟩) (by assumption) ?rest8z
              case hy8z => ((intro w hSw; (try dsimp only at hSw); go_simp) <;> with_reducible rfl)
              case rest8z =>
                (try simp only [Act.put, List.setIfInBounds_toArray, List.set_cons_zero, List.set_cons_succ])
                refine anyH_at #[true, true, true, true, true, true, true, true, true] (by kernel_rfl) ?_
                refine wpAnyH_done (by kernel_rfl) ?_ _
                go_wp2
                go_ret
                exact ⟨rfl, (unhide HK).bel⟩
  
set_option maxRecDepth 100000 in
set_option maxHeartbeats 4000000 in
theorem exsum_eqa {w K1 X1 S1 K2 X2 S2 : Int} {n1 n2 : Bool} {d1 d2 : Nat} (W : World) (hm : X1 ≤ X2) (HS : Hid (0 ≤ S1 ∧ S1 < 18446744073709551616 ∧ S1.toNat < pw 2 ∧ 0 ≤ S2 ∧ S2 < 18446744073709551616 ∧ S2.toNat < pw 2))
    (HD : Hid (IntKind.i64.wrap 0 = (d1 : Int) ∧ d1 ≤ 10000 ∧ IntKind.i64.wrap (X2 - X1) = (d2 : Int) ∧ d2 ≤ 10000)) (hn : (n1 == n2) = false) (HV : Hid (cmpN (S1.toNat * 2 ^ d1) (S2.toNat * 2 ^ d2) = 0)) :
    Calls Try.prog 46 #[.int .i64 w, .agg #[.bool n1, .int .i64 K1, .int .i64 X1, .int .u64 S1], .agg #[.bool n2, .int .i64 K2, .int .i64 X2, .int .u64 S2]] W fun r W' => r = .returned (.int .u64 0) ∧ Below W.heap.size W W' := by
  go_enter Try.func46, Try.ntmps46
  go_wp2_with fail
  have HB := hide ((below2 W (.cells #[.bool n1, .int .i64 K1, .int .i64 X1, .int .u64 S1] 41) (.cells #[.bool n2, .int .i64 K2, .int .i64 X2, .int .u64 S2] 41)).drew)
  have HA := hide (And.intro ((at4_new2a W (.bool n1) (.int .i64 K1) (.int .i64 X1) (.int .u64 S1) 41 (.cells #[.bool n2, .int .i64 K2, .int .i64 X2, .int .u64 S2] 41)).below ((Below.refl _ _).drew)) ((at4_new2b W (.cells #[.bool n1, .int .i64 K1, .int .i64 X1, .int .u64 S1] 41) (.bool n2) (.int .i64 K2) (.int .i64 X2) (.int .u64 S2) 41).below ((Below.refl _ _).drew)))
  refine wp_region_held_drew (S := fun w' => (w'.cell? ⟨W.heap.size, 0, none⟩ = some (.bool n1) ∧ w'.cell? ⟨W.heap.size, 1, none⟩ = some (.int .i64 K1) ∧ w'.cell? ⟨W.heap.size, 2, none⟩ = some (.int .i64 X1) ∧ w'.cell? ⟨W.heap.size, 3, none⟩ = some (.int .u64 S1)) ∧ (w'.cell? ⟨W.heap.size + 1, 0, none⟩ = some (.bool n2) ∧ w'.cell? ⟨W.heap.size + 1, 1, none⟩ = some (.int .i64 K2) ∧ w'.cell? ⟨W.heap.size + 1, 2, none⟩ = some (.int .i64 X2) ∧ w'.cell? ⟨W.heap.size + 1, 3, none⟩ = some (.int .u64 S2))) (by kernel_rfl) ?_ (fun hHeld => ?_)
  · (try dsimp only)
    exact unhide HA
  refine wo_start (N := W.heap.size + 1 + 1) (i1 := 8) (d1 := 8) (v1 := #[.slice none 0 0]) (t1 := 65) (f := 1) (n := 8) (T := fun w' => Below W.heap.size W w') (by kernel_rfl) (by kernel_rfl) (fun _ _ _ _ _ h => h) (stable_and (stable_at4 _ _ _ _ _) (stable_at4 _ _ _ _ _)) ?_ (stable_below W) hHeld (unhide HB) (by simp) ?_
  · intro a w K h
    unfold wpOp
    go_simp
    exact Or.inl h
  clear hHeld
  refine wo_take (i := 0) (oi := { dst := some 16, op := _, type := _, pos := _, after := _, guard := _ }) rfl (by kernel_rfl) (by kernel_rfl) (fun _ _ _ h => h) (Or.inl ⟨by rfl, fun w hSw => by (try dsimp only at hSw); go_simp; with_reducible rfl⟩) ?_
  (try simp only [Act.put, List.setIfInBounds_toArray, List.set_cons_zero, List.set_cons_succ])
  refine wo_take (i := 1) (oi := { dst := some 17, op := _, type := _, pos := _, after := _, guard := _ }) rfl (by kernel_rfl) (by kernel_rfl) (fun _ _ _ h => h) (Or.inl ⟨by rfl, fun w hSw => by (try dsimp only at hSw); go_simp; with_reducible rfl⟩) ?_
  (try simp only [Act.put, List.setIfInBounds_toArray, List.set_cons_zero, List.set_cons_succ])
  refine wo_take (i := 3) (oi := { dst := some 19, op := _, type := _, pos := _, after := _, guard := _ }) rfl (by kernel_rfl) (by kernel_rfl) (fun _ _ _ h => h) (Or.inl ⟨by rfl, fun w hSw => by (try dsimp only at hSw); go_simp; with_reducible rfl⟩) ?_
  (try simp only [Act.put, List.setIfInBounds_toArray, List.set_cons_zero, List.set_cons_succ])
  refine wo_take (i := 4) (oi := { dst := some 20, op := _, type := _, pos := _, after := _, guard := _ }) rfl (by kernel_rfl) (by kernel_rfl) (fun _ _ _ h => h) (Or.inl ⟨by rfl, fun w hSw => by (try dsimp only at hSw); go_simp; with_reducible rfl⟩) ?_
  (try simp only [Act.put, List.setIfInBounds_toArray, List.set_cons_zero, List.set_cons_succ])
  refine wo_take (i := 5) (oi := { dst := some 21, op := _, type := _, pos := _, after := _, guard := _ }) rfl (by kernel_rfl) (by kernel_rfl) (fun _ _ _ h => h) (Or.inl ⟨by rfl, fun w hSw => by (try dsimp only at hSw); go_simp; with_reducible rfl⟩) ?_
  (try simp only [Act.put, List.setIfInBounds_toArray, List.set_cons_zero, List.set_cons_succ])
  refine wo_take (i := 6) (oi := { dst := some 22, op := _, type := _, pos := _, after := _, guard := _ }) rfl (by kernel_rfl) (by kernel_rfl) (fun _ _ _ h => h) (Or.inl ⟨by rfl, fun w hSw => by (try dsimp only at hSw); go_simp; with_reducible rfl⟩) ?_
  (try simp only [Act.put, List.setIfInBounds_toArray, List.set_cons_zero, List.set_cons_succ])
  refine wo_call (c := 2) (o := { dst := some 18, op := _, type := _, pos := _, after := _, guard := _ }) rfl (by kernel_rfl) (by kernel_rfl) (fun u hSu hTu Kk hKk => ?_)
  go_simp
  refine (refOf_any S1 _ (unhide HS).1 (unhide HS).2.1).mono ?_
  rintro _ wn ⟨s1, rfl, hN1, hbl⟩
  obtain ⟨a1, m1, c1, rfl⟩ := hN1.slice
  have HTn := hide (And.intro (bthen hTu hbl) hN1)
  clear hTu hN1
  (try go_wp2_with fail)
  refine hKk.out _ _ (fun w' => Below W.heap.size W w' ∧ IsNat w' (.slice a1 m1 c1) S1.toNat) (by assumption) (stable_and (stable_below W) (stable_nat _ _)) (unhide HTn) ?_
  clear hKk Kk HTn
  (try simp only [Act.put, List.setIfInBounds_toArray, List.set_cons_zero, List.set_cons_succ])
  refine wo_call (c := 7) (o := { dst := some 23, op := _, type := _, pos := _, after := _, guard := _ }) rfl (by kernel_rfl) (by kernel_rfl) (fun u hSu hTu Kk hKk => ?_)
  go_simp
  refine (shl_k _ _ _ _ _ d1 _ (unhide HD).1 hTu.2 (unhide HS).2.2.1 (unhide HD).2.1).mono ?_
  rintro _ wn ⟨s2, rfl, hN2, hbl⟩
  obtain ⟨a2, m2, c2, rfl⟩ := hN2.slice
  have HTn := hide (And.intro (bthen hTu.1 hbl) hN2)
  clear hTu hN2
  (try go_wp2_with fail)
  refine hKk.out _ _ (fun w' => Below W.heap.size W w' ∧ IsNat w' (.slice a2 m2 c2) (S1.toNat * 2 ^ d1)) (by assumption) (stable_and (stable_below W) (stable_nat _ _)) (unhide HTn) ?_
  clear hKk Kk HTn
  (try simp only [Act.put, List.setIfInBounds_toArray, List.set_cons_zero, List.set_cons_succ])
  refine wo_fin (by kernel_rfl) (fun wf b1 hSu hTu k1 => ?_)
  (try simp only [Act.put, List.setIfInBounds_toArray, List.set_cons_zero, List.set_cons_succ])
  unfold ptr
  have zb := k1.base
  obtain ⟨f0, f1⟩ := fresh1 k1
  refine anyH_at #[true, true, true, true, true, true, true, true, true, false] (by kernel_rfl) ?_
  refine wpAnyH_ready (rs := [9]) (by kernel_rfl) (by simp) ?_
  refine AllReadyH.cons (o := { dst := none, op := _, type := _, pos := _, after := _, guard := _ }) rfl (fun Kk hKk => ?_) AllReadyH.nil
  go_simp
  refine hKk.out _ _ ?_ (fun hHeld => ?_)
  · (try dsimp only)
    exact ⟨At4.set hSu.1 (by omega) _ _, At4.set hSu.2 (by omega) _ _⟩
  clear hKk Kk
  refine wpAnyH_done (by kernel_rfl) ?_ _
  have HA := hide hHeld
  have HB := hide (bset hTu.1 b1 (by omega) 0 (.slice a2 m2 c2))
  have HM := hide (hTu.2.store f0 (.slice a2 m2 c2))
  have HC1 := hide (set_same1 f0 (.slice a2 m2 c2))
  have ZB := hide zb
  clear hHeld hSu hTu k1 f0 f1 zb
  generalize wf.setCell ⟨b1, 0, none⟩ (.slice a2 m2 c2) = wx at *
  go_wp2_with fail
  have HA := hide (And.intro (At4.below (unhide HA).1 ((Below.refl _ _).drew)) (At4.below (unhide HA).2 ((Below.refl _ _).drew)))
  have HB := hide ((unhide HB).drew)
  have HM := hide ((unhide HM).below ((Below.refl _ _).drew))
  have HC1 := hide (keep1 ((Below.refl _ _).drew) (lt_of_cell (unhide HC1)) (unhide HC1))
  have hz4 : b1 + 1 ≤ wx.drew.heap.size := lt_of_cell (unhide HC1)
  refine wp_region_held_drew (S := fun w' => (w'.cell? ⟨W.heap.size, 0, none⟩ = some (.bool n1) ∧ w'.cell? ⟨W.heap.size, 1, none⟩ = some (.int .i64 K1) ∧ w'.cell? ⟨W.heap.size, 2, none⟩ = some (.int .i64 X1) ∧ w'.cell? ⟨W.heap.size, 3, none⟩ = some (.int .u64 S1)) ∧ (w'.cell? ⟨W.heap.size + 1, 0, none⟩ = some (.bool n2) ∧ w'.cell? ⟨W.heap.size + 1, 1, none⟩ = some (.int .i64 K2) ∧ w'.cell? ⟨W.heap.size + 1, 2, none⟩ = some (.int .i64 X2) ∧ w'.cell? ⟨W.heap.size + 1, 3, none⟩ = some (.int .u64 S2)) ∧ w'.cell? ⟨b1, 0, none⟩ = some (.slice a2 m2 c2)) (by kernel_rfl) ?_ (fun hHeld => ?_)
  · (try dsimp only)
    exact ⟨(unhide HA).1, (unhide HA).2, unhide HC1⟩
  refine wo_start (N := b1 + 1) (i1 := 8) (d1 := 9) (v1 := #[.slice none 0 0]) (t1 := 65) (f := 1) (n := 8) (T := fun w' => Below W.heap.size W w' ∧ IsNat w' (.slice a2 m2 c2) (S1.toNat * 2 ^ d1)) (by kernel_rfl) (by kernel_rfl) (fun _ _ _ _ _ h => h) (stable_and (stable_at4 _ _ _ _ _) (stable_and (stable_at4 _ _ _ _ _) (stable_cell _ _))) ?_ (stable_and (stable_below W) (stable_nat _ _)) hHeld (⟨unhide HB, unhide HM⟩) (hz4) ?_
  · intro a w K h
    unfold wpOp
    go_simp
    exact Or.inl h
  clear hHeld
  refine wo_take (i := 0) (oi := { dst := some 24, op := _, type := _, pos := _, after := _, guard := _ }) rfl (by kernel_rfl) (by kernel_rfl) (fun _ _ _ h => h) (Or.inl ⟨by rfl, fun w hSw => by (try dsimp only at hSw); go_simp; with_reducible rfl⟩) ?_
  (try simp only [Act.put, List.setIfInBounds_toArray, List.set_cons_zero, List.set_cons_succ])
  refine wo_take (i := 1) (oi := { dst := some 25, op := _, type := _, pos := _, after := _, guard := _ }) rfl (by kernel_rfl) (by kernel_rfl) (fun _ _ _ h => h) (Or.inl ⟨by rfl, fun w hSw => by (try dsimp only at hSw); go_simp; with_reducible rfl⟩) ?_
  (try simp only [Act.put, List.setIfInBounds_toArray, List.set_cons_zero, List.set_cons_succ])
  refine wo_take (i := 3) (oi := { dst := some 27, op := _, type := _, pos := _, after := _, guard := _ }) rfl (by kernel_rfl) (by kernel_rfl) (fun _ _ _ h => h) (Or.inl ⟨by rfl, fun w hSw => by (try dsimp only at hSw); go_simp; with_reducible rfl⟩) ?_
  (try simp only [Act.put, List.setIfInBounds_toArray, List.set_cons_zero, List.set_cons_succ])
  refine wo_take (i := 4) (oi := { dst := some 28, op := _, type := _, pos := _, after := _, guard := _ }) rfl (by kernel_rfl) (by kernel_rfl) (fun _ _ _ h => h) (Or.inl ⟨by rfl, fun w hSw => by (try dsimp only at hSw); go_simp; with_reducible rfl⟩) ?_
  (try simp only [Act.put, List.setIfInBounds_toArray, List.set_cons_zero, List.set_cons_succ])
  refine wo_take (i := 5) (oi := { dst := some 29, op := _, type := _, pos := _, after := _, guard := _ }) rfl (by kernel_rfl) (by kernel_rfl) (fun _ _ _ h => h) (Or.inl ⟨by rfl, fun w hSw => by (try dsimp only at hSw); go_simp; with_reducible rfl⟩) ?_
  (try simp only [Act.put, List.setIfInBounds_toArray, List.set_cons_zero, List.set_cons_succ])
  refine wo_take (i := 6) (oi := { dst := some 30, op := _, type := _, pos := _, after := _, guard := _ }) rfl (by kernel_rfl) (by kernel_rfl) (fun _ _ _ h => h) (Or.inl ⟨by rfl, fun w hSw => by (try dsimp only at hSw); go_simp; with_reducible rfl⟩) ?_
  (try simp only [Act.put, List.setIfInBounds_toArray, List.set_cons_zero, List.set_cons_succ])
  refine wo_call (c := 2) (o := { dst := some 26, op := _, type := _, pos := _, after := _, guard := _ }) rfl (by kernel_rfl) (by kernel_rfl) (fun u hSu hTu Kk hKk => ?_)
  go_simp
  refine (refOf_any S2 _ (unhide HS).2.2.2.1 (unhide HS).2.2.2.2.1).mono ?_
  rintro _ wn ⟨s3, rfl, hN3, hbl⟩
  obtain ⟨a3, m3, c3, rfl⟩ := hN3.slice
  have HTn := hide (And.intro (bthen hTu.1 hbl) (And.intro (hTu.2.below hbl) hN3))
  clear hTu hN3
  (try go_wp2_with fail)
  refine hKk.out _ _ (fun w' => Below W.heap.size W w' ∧ IsNat w' (.slice a2 m2 c2) (S1.toNat * 2 ^ d1) ∧ IsNat w' (.slice a3 m3 c3) S2.toNat) (by assumption) (stable_and (stable_below W) (stable_and (stable_nat _ _) (stable_nat _ _))) (unhide HTn) ?_
  clear hKk Kk HTn
  (try simp only [Act.put, List.setIfInBounds_toArray, List.set_cons_zero, List.set_cons_succ])
  refine wo_call (c := 7) (o := { dst := some 31, op := _, type := _, pos := _, after := _, guard := _ }) rfl (by kernel_rfl) (by kernel_rfl) (fun u hSu hTu Kk hKk => ?_)
  go_simp
  refine (shl_k _ _ _ _ _ d2 _ (unhide HD).2.2.1 hTu.2.2 (unhide HS).2.2.2.2.2 (unhide HD).2.2.2).mono ?_
  rintro _ wn ⟨s4, rfl, hN4, hbl⟩
  obtain ⟨a4, m4, c4, rfl⟩ := hN4.slice
  have HTn := hide (And.intro (bthen hTu.1 hbl) (And.intro (hTu.2.1.below hbl) hN4))
  clear hTu hN4
  (try go_wp2_with fail)
  refine hKk.out _ _ (fun w' => Below W.heap.size W w' ∧ IsNat w' (.slice a2 m2 c2) (S1.toNat * 2 ^ d1) ∧ IsNat w' (.slice a4 m4 c4) (S2.toNat * 2 ^ d2)) (by assumption) (stable_and (stable_below W) (stable_and (stable_nat _ _) (stable_nat _ _))) (unhide HTn) ?_
  clear hKk Kk HTn
  (try simp only [Act.put, List.setIfInBounds_toArray, List.set_cons_zero, List.set_cons_succ])
  refine wo_fin (by kernel_rfl) (fun wf b2 hSu hTu k1 => ?_)
  (try simp only [Act.put, List.setIfInBounds_toArray, List.set_cons_zero, List.set_cons_succ])
  unfold ptr
  have zb := k1.base
  obtain ⟨f0, f1⟩ := fresh1 k1
  refine anyH_at #[true, true, true, true, true, true, true, true, true, false] (by kernel_rfl) ?_
  refine wpAnyH_ready (rs := [9]) (by kernel_rfl) (by simp) ?_
  refine AllReadyH.cons (o := { dst := none, op := _, type := _, pos := _, after := _, guard := _ }) rfl (fun Kk hKk => ?_) AllReadyH.nil
  go_simp
  refine hKk.out _ _ ?_ (fun hHeld => ?_)
  · (try dsimp only)
    exact ⟨At4.set hSu.1 (by have := unhide ZB; omega) _ _, At4.set hSu.2.1 (by have := unhide ZB; omega) _ _, keep_set _ _ _ (by omega) hSu.2.2⟩
  clear hKk Kk
  refine wpAnyH_done (by kernel_rfl) ?_ _
  have HK : Hid (ESt W b1 b2 n1 n2 K1 X1 S1 K2 X2 S2 (.slice a2 m2 c2) (.slice a4 m4 c4) (S1.toNat * 2 ^ d1) (S2.toNat * 2 ^ d2) (wf.setCell ⟨b2, 0, none⟩ (.slice a4 m4 c4))) :=
    { a1 := hHeld.1, a2 := hHeld.2.1, c1 := hHeld.2.2, c2 := set_same1 f0 _, m1 := hTu.2.1.store f0 _, m2 := hTu.2.2.store f0 _, bel := bset hTu.1 b2 (by have := unhide ZB; omega) 0 _ }
  clear hHeld hSu hTu k1 f0 f1 zb HA HB HM HC1 hz4
  generalize wf.setCell ⟨b2, 0, none⟩ (.slice a4 m4 c4) = wy at *
  have s0 := (unhide HK).a1.1
  have s1 := (unhide HK).a2.1
  have p0 := (unhide HK).c1
  have q0 := (unhide HK).c2
  go_wp2_with fail
  refine (refCmp_any _ _ _ _ _ _ _ _ _ (unhide HK).m1 (unhide HK).m2).mono ?_
  rw [unhide HV]
  rintro _ w4 ⟨rfl, hbl⟩
  clear s0 s1 p0 q0
  have HK := hide ((unhide HK).below hbl)
  clear hbl
  have s0 := (unhide HK).a1.1
  have s1 := (unhide HK).a2.1
  have p0 := (unhide HK).c1
  have q0 := (unhide HK).c2
  go_wp2_with fail
  go_ret
  exact ⟨rfl, (unhide HK).bel⟩
set_option maxRecDepth 100000 in
set_option maxHeartbeats 4000000 in
theorem exsum_lta {w K1 X1 S1 K2 X2 S2 V : Int} {n1 n2 : Bool} {d1 d2 : Nat} (W : World) (hm : X1 ≤ X2) (HS : Hid (0 ≤ S1 ∧ S1 < 18446744073709551616 ∧ S1.toNat < pw 2 ∧ 0 ≤ S2 ∧ S2 < 18446744073709551616 ∧ S2.toNat < pw 2))
    (HD : Hid (IntKind.i64.wrap 0 = (d1 : Int) ∧ d1 ≤ 10000 ∧ IntKind.i64.wrap (X2 - X1) = (d2 : Int) ∧ d2 ≤ 10000)) (hn : (n1 == n2) = false) (HV : Hid (cmpN (S1.toNat * 2 ^ d1) (S2.toNat * 2 ^ d2) = -1)) (hle : Hid ((S1.toNat * 2 ^ d1) ≤ (S2.toNat * 2 ^ d2))) (H3 : Hid ((S1.toNat * 2 ^ d1) < pw 300 ∧ (S2.toNat * 2 ^ d2) < pw 300)) (HE : Hid (∀ (a : Option Addr) (m c : Nat) (W : World), IsNat W (.slice a m c) ((S2.toNat * 2 ^ d2) - (S1.toNat * 2 ^ d1)) → Calls Try.prog 55 #[.int .i64 w, .bool n2, .agg #[.slice a m c], .int .i64 X1] W fun r W' => r = .returned (.int .u64 V) ∧ Below W.heap.size W W')) :
    Calls Try.prog 46 #[.int .i64 w, .agg #[.bool n1, .int .i64 K1, .int .i64 X1, .int .u64 S1], .agg #[.bool n2, .int .i64 K2, .int .i64 X2, .int .u64 S2]] W fun r W' => r = .returned (.int .u64 V) ∧ Below W.heap.size W W' := by
  go_enter Try.func46, Try.ntmps46
  go_wp2_with fail
  have HB := hide ((below2 W (.cells #[.bool n1, .int .i64 K1, .int .i64 X1, .int .u64 S1] 41) (.cells #[.bool n2, .int .i64 K2, .int .i64 X2, .int .u64 S2] 41)).drew)
  have HA := hide (And.intro ((at4_new2a W (.bool n1) (.int .i64 K1) (.int .i64 X1) (.int .u64 S1) 41 (.cells #[.bool n2, .int .i64 K2, .int .i64 X2, .int .u64 S2] 41)).below ((Below.refl _ _).drew)) ((at4_new2b W (.cells #[.bool n1, .int .i64 K1, .int .i64 X1, .int .u64 S1] 41) (.bool n2) (.int .i64 K2) (.int .i64 X2) (.int .u64 S2) 41).below ((Below.refl _ _).drew)))
  refine wp_region_held_drew (S := fun w' => (w'.cell? ⟨W.heap.size, 0, none⟩ = some (.bool n1) ∧ w'.cell? ⟨W.heap.size, 1, none⟩ = some (.int .i64 K1) ∧ w'.cell? ⟨W.heap.size, 2, none⟩ = some (.int .i64 X1) ∧ w'.cell? ⟨W.heap.size, 3, none⟩ = some (.int .u64 S1)) ∧ (w'.cell? ⟨W.heap.size + 1, 0, none⟩ = some (.bool n2) ∧ w'.cell? ⟨W.heap.size + 1, 1, none⟩ = some (.int .i64 K2) ∧ w'.cell? ⟨W.heap.size + 1, 2, none⟩ = some (.int .i64 X2) ∧ w'.cell? ⟨W.heap.size + 1, 3, none⟩ = some (.int .u64 S2))) (by kernel_rfl) ?_ (fun hHeld => ?_)
  · (try dsimp only)
    exact unhide HA
  refine wo_start (N := W.heap.size + 1 + 1) (i1 := 8) (d1 := 8) (v1 := #[.slice none 0 0]) (t1 := 65) (f := 1) (n := 8) (T := fun w' => Below W.heap.size W w') (by kernel_rfl) (by kernel_rfl) (fun _ _ _ _ _ h => h) (stable_and (stable_at4 _ _ _ _ _) (stable_at4 _ _ _ _ _)) ?_ (stable_below W) hHeld (unhide HB) (by simp) ?_
  · intro a w K h
    unfold wpOp
    go_simp
    exact Or.inl h
  clear hHeld
  refine wo_take (i := 0) (oi := { dst := some 16, op := _, type := _, pos := _, after := _, guard := _ }) rfl (by kernel_rfl) (by kernel_rfl) (fun _ _ _ h => h) (Or.inl ⟨by rfl, fun w hSw => by (try dsimp only at hSw); go_simp; with_reducible rfl⟩) ?_
  (try simp only [Act.put, List.setIfInBounds_toArray, List.set_cons_zero, List.set_cons_succ])
  refine wo_take (i := 1) (oi := { dst := some 17, op := _, type := _, pos := _, after := _, guard := _ }) rfl (by kernel_rfl) (by kernel_rfl) (fun _ _ _ h => h) (Or.inl ⟨by rfl, fun w hSw => by (try dsimp only at hSw); go_simp; with_reducible rfl⟩) ?_
  (try simp only [Act.put, List.setIfInBounds_toArray, List.set_cons_zero, List.set_cons_succ])
  refine wo_take (i := 3) (oi := { dst := some 19, op := _, type := _, pos := _, after := _, guard := _ }) rfl (by kernel_rfl) (by kernel_rfl) (fun _ _ _ h => h) (Or.inl ⟨by rfl, fun w hSw => by (try dsimp only at hSw); go_simp; with_reducible rfl⟩) ?_
  (try simp only [Act.put, List.setIfInBounds_toArray, List.set_cons_zero, List.set_cons_succ])
  refine wo_take (i := 4) (oi := { dst := some 20, op := _, type := _, pos := _, after := _, guard := _ }) rfl (by kernel_rfl) (by kernel_rfl) (fun _ _ _ h => h) (Or.inl ⟨by rfl, fun w hSw => by (try dsimp only at hSw); go_simp; with_reducible rfl⟩) ?_
  (try simp only [Act.put, List.setIfInBounds_toArray, List.set_cons_zero, List.set_cons_succ])
  refine wo_take (i := 5) (oi := { dst := some 21, op := _, type := _, pos := _, after := _, guard := _ }) rfl (by kernel_rfl) (by kernel_rfl) (fun _ _ _ h => h) (Or.inl ⟨by rfl, fun w hSw => by (try dsimp only at hSw); go_simp; with_reducible rfl⟩) ?_
  (try simp only [Act.put, List.setIfInBounds_toArray, List.set_cons_zero, List.set_cons_succ])
  refine wo_take (i := 6) (oi := { dst := some 22, op := _, type := _, pos := _, after := _, guard := _ }) rfl (by kernel_rfl) (by kernel_rfl) (fun _ _ _ h => h) (Or.inl ⟨by rfl, fun w hSw => by (try dsimp only at hSw); go_simp; with_reducible rfl⟩) ?_
  (try simp only [Act.put, List.setIfInBounds_toArray, List.set_cons_zero, List.set_cons_succ])
  refine wo_call (c := 2) (o := { dst := some 18, op := _, type := _, pos := _, after := _, guard := _ }) rfl (by kernel_rfl) (by kernel_rfl) (fun u hSu hTu Kk hKk => ?_)
  go_simp
  refine (refOf_any S1 _ (unhide HS).1 (unhide HS).2.1).mono ?_
  rintro _ wn ⟨s1, rfl, hN1, hbl⟩
  obtain ⟨a1, m1, c1, rfl⟩ := hN1.slice
  have HTn := hide (And.intro (bthen hTu hbl) hN1)
  clear hTu hN1
  (try go_wp2_with fail)
  refine hKk.out _ _ (fun w' => Below W.heap.size W w' ∧ IsNat w' (.slice a1 m1 c1) S1.toNat) (by assumption) (stable_and (stable_below W) (stable_nat _ _)) (unhide HTn) ?_
  clear hKk Kk HTn
  (try simp only [Act.put, List.setIfInBounds_toArray, List.set_cons_zero, List.set_cons_succ])
  refine wo_call (c := 7) (o := { dst := some 23, op := _, type := _, pos := _, after := _, guard := _ }) rfl (by kernel_rfl) (by kernel_rfl) (fun u hSu hTu Kk hKk => ?_)
  go_simp
  refine (shl_k _ _ _ _ _ d1 _ (unhide HD).1 hTu.2 (unhide HS).2.2.1 (unhide HD).2.1).mono ?_
  rintro _ wn ⟨s2, rfl, hN2, hbl⟩
  obtain ⟨a2, m2, c2, rfl⟩ := hN2.slice
  have HTn := hide (And.intro (bthen hTu.1 hbl) hN2)
  clear hTu hN2
  (try go_wp2_with fail)
  refine hKk.out _ _ (fun w' => Below W.heap.size W w' ∧ IsNat w' (.slice a2 m2 c2) (S1.toNat * 2 ^ d1)) (by assumption) (stable_and (stable_below W) (stable_nat _ _)) (unhide HTn) ?_
  clear hKk Kk HTn
  (try simp only [Act.put, List.setIfInBounds_toArray, List.set_cons_zero, List.set_cons_succ])
  refine wo_fin (by kernel_rfl) (fun wf b1 hSu hTu k1 => ?_)
  (try simp only [Act.put, List.setIfInBounds_toArray, List.set_cons_zero, List.set_cons_succ])
  unfold ptr
  have zb := k1.base
  obtain ⟨f0, f1⟩ := fresh1 k1
  refine anyH_at #[true, true, true, true, true, true, true, true, true, false] (by kernel_rfl) ?_
  refine wpAnyH_ready (rs := [9]) (by kernel_rfl) (by simp) ?_
  refine AllReadyH.cons (o := { dst := none, op := _, type := _, pos := _, after := _, guard := _ }) rfl (fun Kk hKk => ?_) AllReadyH.nil
  go_simp
  refine hKk.out _ _ ?_ (fun hHeld => ?_)
  · (try dsimp only)
    exact ⟨At4.set hSu.1 (by omega) _ _, At4.set hSu.2 (by omega) _ _⟩
  clear hKk Kk
  refine wpAnyH_done (by kernel_rfl) ?_ _
  have HA := hide hHeld
  have HB := hide (bset hTu.1 b1 (by omega) 0 (.slice a2 m2 c2))
  have HM := hide (hTu.2.store f0 (.slice a2 m2 c2))
  have HC1 := hide (set_same1 f0 (.slice a2 m2 c2))
  have ZB := hide zb
  clear hHeld hSu hTu k1 f0 f1 zb
  generalize wf.setCell ⟨b1, 0, none⟩ (.slice a2 m2 c2) = wx at *
  go_wp2_with fail
  have HA := hide (And.intro (At4.below (unhide HA).1 ((Below.refl _ _).drew)) (At4.below (unhide HA).2 ((Below.refl _ _).drew)))
  have HB := hide ((unhide HB).drew)
  have HM := hide ((unhide HM).below ((Below.refl _ _).drew))
  have HC1 := hide (keep1 ((Below.refl _ _).drew) (lt_of_cell (unhide HC1)) (unhide HC1))
  have hz4 : b1 + 1 ≤ wx.drew.heap.size := lt_of_cell (unhide HC1)
  refine wp_region_held_drew (S := fun w' => (w'.cell? ⟨W.heap.size, 0, none⟩ = some (.bool n1) ∧ w'.cell? ⟨W.heap.size, 1, none⟩ = some (.int .i64 K1) ∧ w'.cell? ⟨W.heap.size, 2, none⟩ = some (.int .i64 X1) ∧ w'.cell? ⟨W.heap.size, 3, none⟩ = some (.int .u64 S1)) ∧ (w'.cell? ⟨W.heap.size + 1, 0, none⟩ = some (.bool n2) ∧ w'.cell? ⟨W.heap.size + 1, 1, none⟩ = some (.int .i64 K2) ∧ w'.cell? ⟨W.heap.size + 1, 2, none⟩ = some (.int .i64 X2) ∧ w'.cell? ⟨W.heap.size + 1, 3, none⟩ = some (.int .u64 S2)) ∧ w'.cell? ⟨b1, 0, none⟩ = some (.slice a2 m2 c2)) (by kernel_rfl) ?_ (fun hHeld => ?_)
  · (try dsimp only)
    exact ⟨(unhide HA).1, (unhide HA).2, unhide HC1⟩
  refine wo_start (N := b1 + 1) (i1 := 8) (d1 := 9) (v1 := #[.slice none 0 0]) (t1 := 65) (f := 1) (n := 8) (T := fun w' => Below W.heap.size W w' ∧ IsNat w' (.slice a2 m2 c2) (S1.toNat * 2 ^ d1)) (by kernel_rfl) (by kernel_rfl) (fun _ _ _ _ _ h => h) (stable_and (stable_at4 _ _ _ _ _) (stable_and (stable_at4 _ _ _ _ _) (stable_cell _ _))) ?_ (stable_and (stable_below W) (stable_nat _ _)) hHeld (⟨unhide HB, unhide HM⟩) (hz4) ?_
  · intro a w K h
    unfold wpOp
    go_simp
    exact Or.inl h
  clear hHeld
  refine wo_take (i := 0) (oi := { dst := some 24, op := _, type := _, pos := _, after := _, guard := _ }) rfl (by kernel_rfl) (by kernel_rfl) (fun _ _ _ h => h) (Or.inl ⟨by rfl, fun w hSw => by (try dsimp only at hSw); go_simp; with_reducible rfl⟩) ?_
  (try simp only [Act.put, List.setIfInBounds_toArray, List.set_cons_zero, List.set_cons_succ])
  refine wo_take (i := 1) (oi := { dst := some 25, op := _, type := _, pos := _, after := _, guard := _ }) rfl (by kernel_rfl) (by kernel_rfl) (fun _ _ _ h => h) (Or.inl ⟨by rfl, fun w hSw => by (try dsimp only at hSw); go_simp; with_reducible rfl⟩) ?_
  (try simp only [Act.put, List.setIfInBounds_toArray, List.set_cons_zero, List.set_cons_succ])
  refine wo_take (i := 3) (oi := { dst := some 27, op := _, type := _, pos := _, after := _, guard := _ }) rfl (by kernel_rfl) (by kernel_rfl) (fun _ _ _ h => h) (Or.inl ⟨by rfl, fun w hSw => by (try dsimp only at hSw); go_simp; with_reducible rfl⟩) ?_
  (try simp only [Act.put, List.setIfInBounds_toArray, List.set_cons_zero, List.set_cons_succ])
  refine wo_take (i := 4) (oi := { dst := some 28, op := _, type := _, pos := _, after := _, guard := _ }) rfl (by kernel_rfl) (by kernel_rfl) (fun _ _ _ h => h) (Or.inl ⟨by rfl, fun w hSw => by (try dsimp only at hSw); go_simp; with_reducible rfl⟩) ?_
  (try simp only [Act.put, List.setIfInBounds_toArray, List.set_cons_zero, List.set_cons_succ])
  refine wo_take (i := 5) (oi := { dst := some 29, op := _, type := _, pos := _, after := _, guard := _ }) rfl (by kernel_rfl) (by kernel_rfl) (fun _ _ _ h => h) (Or.inl ⟨by rfl, fun w hSw => by (try dsimp only at hSw); go_simp; with_reducible rfl⟩) ?_
  (try simp only [Act.put, List.setIfInBounds_toArray, List.set_cons_zero, List.set_cons_succ])
  refine wo_take (i := 6) (oi := { dst := some 30, op := _, type := _, pos := _, after := _, guard := _ }) rfl (by kernel_rfl) (by kernel_rfl) (fun _ _ _ h => h) (Or.inl ⟨by rfl, fun w hSw => by (try dsimp only at hSw); go_simp; with_reducible rfl⟩) ?_
  (try simp only [Act.put, List.setIfInBounds_toArray, List.set_cons_zero, List.set_cons_succ])
  refine wo_call (c := 2) (o := { dst := some 26, op := _, type := _, pos := _, after := _, guard := _ }) rfl (by kernel_rfl) (by kernel_rfl) (fun u hSu hTu Kk hKk => ?_)
  go_simp
  refine (refOf_any S2 _ (unhide HS).2.2.2.1 (unhide HS).2.2.2.2.1).mono ?_
  rintro _ wn ⟨s3, rfl, hN3, hbl⟩
  obtain ⟨a3, m3, c3, rfl⟩ := hN3.slice
  have HTn := hide (And.intro (bthen hTu.1 hbl) (And.intro (hTu.2.below hbl) hN3))
  clear hTu hN3
  (try go_wp2_with fail)
  refine hKk.out _ _ (fun w' => Below W.heap.size W w' ∧ IsNat w' (.slice a2 m2 c2) (S1.toNat * 2 ^ d1) ∧ IsNat w' (.slice a3 m3 c3) S2.toNat) (by assumption) (stable_and (stable_below W) (stable_and (stable_nat _ _) (stable_nat _ _))) (unhide HTn) ?_
  clear hKk Kk HTn
  (try simp only [Act.put, List.setIfInBounds_toArray, List.set_cons_zero, List.set_cons_succ])
  refine wo_call (c := 7) (o := { dst := some 31, op := _, type := _, pos := _, after := _, guard := _ }) rfl (by kernel_rfl) (by kernel_rfl) (fun u hSu hTu Kk hKk => ?_)
  go_simp
  refine (shl_k _ _ _ _ _ d2 _ (unhide HD).2.2.1 hTu.2.2 (unhide HS).2.2.2.2.2 (unhide HD).2.2.2).mono ?_
  rintro _ wn ⟨s4, rfl, hN4, hbl⟩
  obtain ⟨a4, m4, c4, rfl⟩ := hN4.slice
  have HTn := hide (And.intro (bthen hTu.1 hbl) (And.intro (hTu.2.1.below hbl) hN4))
  clear hTu hN4
  (try go_wp2_with fail)
  refine hKk.out _ _ (fun w' => Below W.heap.size W w' ∧ IsNat w' (.slice a2 m2 c2) (S1.toNat * 2 ^ d1) ∧ IsNat w' (.slice a4 m4 c4) (S2.toNat * 2 ^ d2)) (by assumption) (stable_and (stable_below W) (stable_and (stable_nat _ _) (stable_nat _ _))) (unhide HTn) ?_
  clear hKk Kk HTn
  (try simp only [Act.put, List.setIfInBounds_toArray, List.set_cons_zero, List.set_cons_succ])
  refine wo_fin (by kernel_rfl) (fun wf b2 hSu hTu k1 => ?_)
  (try simp only [Act.put, List.setIfInBounds_toArray, List.set_cons_zero, List.set_cons_succ])
  unfold ptr
  have zb := k1.base
  obtain ⟨f0, f1⟩ := fresh1 k1
  refine anyH_at #[true, true, true, true, true, true, true, true, true, false] (by kernel_rfl) ?_
  refine wpAnyH_ready (rs := [9]) (by kernel_rfl) (by simp) ?_
  refine AllReadyH.cons (o := { dst := none, op := _, type := _, pos := _, after := _, guard := _ }) rfl (fun Kk hKk => ?_) AllReadyH.nil
  go_simp
  refine hKk.out _ _ ?_ (fun hHeld => ?_)
  · (try dsimp only)
    exact ⟨At4.set hSu.1 (by have := unhide ZB; omega) _ _, At4.set hSu.2.1 (by have := unhide ZB; omega) _ _, keep_set _ _ _ (by omega) hSu.2.2⟩
  clear hKk Kk
  refine wpAnyH_done (by kernel_rfl) ?_ _
  have HK : Hid (ESt W b1 b2 n1 n2 K1 X1 S1 K2 X2 S2 (.slice a2 m2 c2) (.slice a4 m4 c4) (S1.toNat * 2 ^ d1) (S2.toNat * 2 ^ d2) (wf.setCell ⟨b2, 0, none⟩ (.slice a4 m4 c4))) :=
    { a1 := hHeld.1, a2 := hHeld.2.1, c1 := hHeld.2.2, c2 := set_same1 f0 _, m1 := hTu.2.1.store f0 _, m2 := hTu.2.2.store f0 _, bel := bset hTu.1 b2 (by have := unhide ZB; omega) 0 _ }
  clear hHeld hSu hTu k1 f0 f1 zb HA HB HM HC1 hz4
  generalize wf.setCell ⟨b2, 0, none⟩ (.slice a4 m4 c4) = wy at *
  have s0 := (unhide HK).a1.1
  have s1 := (unhide HK).a2.1
  have p0 := (unhide HK).c1
  have q0 := (unhide HK).c2
  go_wp2_with fail
  refine (refCmp_any _ _ _ _ _ _ _ _ _ (unhide HK).m1 (unhide HK).m2).mono ?_
  rw [unhide HV]
  rintro _ w4 ⟨rfl, hbl⟩
  clear s0 s1 p0 q0
  have HK := hide ((unhide HK).below hbl)
  clear hbl
  have s0 := (unhide HK).a1.1
  have s1 := (unhide HK).a2.1
  have p0 := (unhide HK).c1
  have q0 := (unhide HK).c2
  go_wp2_with fail
  clear s0 s1 p0 q0
  have HK := hide ((unhide HK).below ((Below.refl _ _).drew))
  refine wp_region_held_drew (S := fun w' => (w'.cell? ⟨W.heap.size, 0, none⟩ = some (.bool n1) ∧ w'.cell? ⟨W.heap.size, 1, none⟩ = some (.int .i64 K1) ∧ w'.cell? ⟨W.heap.size, 2, none⟩ = some (.int .i64 X1) ∧ w'.cell? ⟨W.heap.size, 3, none⟩ = some (.int .u64 S1)) ∧ (w'.cell? ⟨W.heap.size + 1, 0, none⟩ = some (.bool n2) ∧ w'.cell? ⟨W.heap.size + 1, 1, none⟩ = some (.int .i64 K2) ∧ w'.cell? ⟨W.heap.size + 1, 2, none⟩ = some (.int .i64 X2) ∧ w'.cell? ⟨W.heap.size + 1, 3, none⟩ = some (.int .u64 S2)) ∧ w'.cell? ⟨b1, 0, none⟩ = some (.slice a2 m2 c2) ∧ w'.cell? ⟨b2, 0, none⟩ = some (.slice a4 m4 c4)) (by kernel_rfl) ?_ (fun hHeld => ?_)
  · (try dsimp only)
    exact ⟨(unhide HK).a1, (unhide HK).a2, (unhide HK).c1, (unhide HK).c2⟩
  refine anyH_at #[false, false, false, false, false, false, false, false, false] (by kernel_rfl) ?_
  refine wpAnyH_take (i := 0) (oi := { dst := some 52, op := _, type := _, pos := _, after := _, guard := _ }) (v := ?vv0z) rfl (by kernel_rfl) (by kernel_rfl) (by kernel_rfl) (fun _ _ _ h => h) (Or.inl ⟨by rfl, ?hy0z⟩) (by assumption) ?rest0z
  case hy0z => ((intro w hSw; (try dsimp only at hSw); go_simp) <;> with_reducible rfl)
  case rest0z =>
    (try simp only [Act.put, List.setIfInBounds_toArray, List.set_cons_zero, List.set_cons_succ])
    refine anyH_at #[true, false, false, false, false, false, false, false, false] (by kernel_rfl) ?_
    refine wpAnyH_take (i := 1) (oi := { dst := some 53, op := _, type := _, pos := _, after := _, guard := _ }) (v := ?vv1z) rfl (by kernel_rfl) (by kernel_rfl) (by kernel_rfl) (fun _ _ _ h => h) (Or.inl ⟨by rfl, ?hy1z⟩) (by assumption) ?rest1z
    case hy1z => ((intro w hSw; (try dsimp only at hSw); go_simp) <;> with_reducible rfl)
    case rest1z =>
      (try simp only [Act.put, List.setIfInBounds_toArray, List.set_cons_zero, List.set_cons_succ])
      refine anyH_at #[true, true, false, false, false, false, false, false, false] (by kernel_rfl) ?_
      refine wpAnyH_take (i := 2) (oi := { dst := some 54, op := _, type := _, pos := _, after := _, guard := _ }) (v := ?vv2z) rfl (by kernel_rfl) (by kernel_rfl) (by kernel_rfl) (fun _ _ _ h => h) (Or.inl ⟨by rfl, ?hy2z⟩) (by assumption) ?rest2z
      case hy2z => ((intro w hSw; (try dsimp only at hSw); go_simp) <;> with_reducible rfl)
      case rest2z =>
        (try simp only [Act.put, List.setIfInBounds_toArray, List.set_cons_zero, List.set_cons_succ])
        refine anyH_at #[true, true, true, false, false, false, false, false, false] (by kernel_rfl) ?_
        refine wpAnyH_take (i := 3) (oi := { dst := some 55, op := _, type := _, pos := _, after := _, guard := _ }) (v := ?vv3z) rfl (by kernel_rfl) (by kernel_rfl) (by kernel_rfl) (fun _ _ _ h => h) (Or.inl ⟨by rfl, ?hy3z⟩) (by assumption) ?rest3z
        case hy3z => ((intro w hSw; (try dsimp only at hSw); go_simp) <;> with_reducible rfl)
        case rest3z =>
          (try simp only [Act.put, List.setIfInBounds_toArray, List.set_cons_zero, List.set_cons_succ])
          refine anyH_at #[true, true, true, true, false, false, false, false, false] (by kernel_rfl) ?_
          refine wpAnyH_take (i := 4) (oi := { dst := some 56, op := _, type := _, pos := _, after := _, guard := _ }) (v := ?vv4z) rfl (by kernel_rfl) (by kernel_rfl) (by kernel_rfl) (fun _ _ _ h => h) (Or.inl ⟨by rfl, ?hy4z⟩) (by assumption) ?rest4z
          case hy4z => ((intro w hSw; (try dsimp only at hSw); go_simp) <;> with_reducible rfl)
          case rest4z =>
            (try simp only [Act.put, List.setIfInBounds_toArray, List.set_cons_zero, List.set_cons_succ])
            refine anyH_at #[true, true, true, true, true, false, false, false, false] (by kernel_rfl) ?_
            refine wpAnyH_take (i := 6) (oi := { dst := some 58, op := _, type := _, pos := _, after := _, guard := _ }) (v := ?vv6z) rfl (by kernel_rfl) (by kernel_rfl) (by kernel_rfl) (fun _ _ _ h => h) (Or.inl ⟨by rfl, ?hy6z⟩) (by assumption) ?rest6z
            case hy6z => ((intro w hSw; (try dsimp only at hSw); go_simp) <;> with_reducible rfl)
            case rest6z =>
              (try simp only [Act.put, List.setIfInBounds_toArray, List.set_cons_zero, List.set_cons_succ])
              refine anyH_at #[true, true, true, true, true, false, true, false, false] (by kernel_rfl) ?_
              refine wpAnyH_ready (rs := [5]) (by kernel_rfl) (by simp) ?_
              refine AllReadyH.cons (o := { dst := some 57, op := _, type := _, pos := _, after := _, guard := _ }) rfl (fun Kk hKk => ?_) AllReadyH.nil
              go_simp
              refine (sub_k _ _ _ _ _ _ _ _ _ (unhide HK).m2 (unhide HK).m1 (unhide H3).2 (unhide hle)).mono ?_
              rintro _ w5 ⟨s5, rfl, hN5, hbl⟩
              obtain ⟨a5, m5, c5, rfl⟩ := hN5.slice
              have HK := hide ((unhide HK).below hbl)
              have H5 := hide hN5
              clear hbl hN5
              (try go_wp2_with fail)
              refine hKk.out _ _ ?_ (fun hHeld => ?_)
              · (try dsimp only)
                exact ⟨(unhide HK).a1, (unhide HK).a2, (unhide HK).c1, (unhide HK).c2⟩
              clear hKk Kk
              (try simp only [List.setIfInBounds_toArray, List.set_cons_zero, List.set_cons_succ])
              refine anyH_at #[true, true, true, true, true, true, true, false, false] (by kernel_rfl) ?_
              refine wpAnyH_ready (rs := [7]) (by kernel_rfl) (by simp) ?_
              refine AllReadyH.cons (o := { dst := some 59, op := _, type := _, pos := _, after := _, guard := _ }) rfl (fun Kk hKk => ?_) AllReadyH.nil
              go_simp
              refine (unhide HE _ _ _ _ (unhide H5)).mono ?_
              rintro _ w6 ⟨rfl, hbl⟩
              have HK := hide ((unhide HK).below hbl)
              clear hbl
              (try go_wp2_with fail)
              refine hKk.out _ _ ?_ (fun hHeld => ?_)
              · (try dsimp only)
                exact ⟨(unhide HK).a1, (unhide HK).a2, (unhide HK).c1, (unhide HK).c2⟩
              clear hKk Kk
              (try simp only [List.setIfInBounds_toArray, List.set_cons_zero, List.set_cons_succ])
              refine anyH_at #[true, true, true, true, true, true, true, true, false] (by kernel_rfl) ?_
              refine wpAnyH_take (i := 8) (oi := { dst := some 6, op := _, type := _, pos := _, after := _, guard := _ }) (v := ?vv8z) rfl (by kernel_rfl) (by kernel_rfl) (by kernel_rfl) (fun _ _ _ h => h) (Or.inl ⟨by rfl, ?hy8z⟩) (by assumption) ?rest8z
              case hy8z => ((intro w hSw; (try dsimp only at hSw); go_simp) <;> with_reducible rfl)
              case rest8z =>
                (try simp only [Act.put, List.setIfInBounds_toArray, List.set_cons_zero, List.set_cons_succ])
                refine anyH_at #[true, true, true, true, true, true, true, true, true] (by kernel_rfl) ?_
                refine wpAnyH_done (by kernel_rfl) ?_ _
                go_wp2
                go_ret
                exact ⟨rfl, (unhide HK).bel⟩
  
set_option maxRecDepth 100000 in
set_option maxHeartbeats 4000000 in
theorem exsum_gta {w K1 X1 S1 K2 X2 S2 V : Int} {n1 n2 : Bool} {d1 d2 : Nat} (W : World) (hm : X1 ≤ X2) (HS : Hid (0 ≤ S1 ∧ S1 < 18446744073709551616 ∧ S1.toNat < pw 2 ∧ 0 ≤ S2 ∧ S2 < 18446744073709551616 ∧ S2.toNat < pw 2))
    (HD : Hid (IntKind.i64.wrap 0 = (d1 : Int) ∧ d1 ≤ 10000 ∧ IntKind.i64.wrap (X2 - X1) = (d2 : Int) ∧ d2 ≤ 10000)) (hn : (n1 == n2) = false) (HV : Hid (cmpN (S1.toNat * 2 ^ d1) (S2.toNat * 2 ^ d2) = 1)) (hle : Hid ((S2.toNat * 2 ^ d2) ≤ (S1.toNat * 2 ^ d1))) (H3 : Hid ((S1.toNat * 2 ^ d1) < pw 300 ∧ (S2.toNat * 2 ^ d2) < pw 300)) (HE : Hid (∀ (a : Option Addr) (m c : Nat) (W : World), IsNat W (.slice a m c) ((S1.toNat * 2 ^ d1) - (S2.toNat * 2 ^ d2)) → Calls Try.prog 55 #[.int .i64 w, .bool n1, .agg #[.slice a m c], .int .i64 X1] W fun r W' => r = .returned (.int .u64 V) ∧ Below W.heap.size W W')) :
    Calls Try.prog 46 #[.int .i64 w, .agg #[.bool n1, .int .i64 K1, .int .i64 X1, .int .u64 S1], .agg #[.bool n2, .int .i64 K2, .int .i64 X2, .int .u64 S2]] W fun r W' => r = .returned (.int .u64 V) ∧ Below W.heap.size W W' := by
  go_enter Try.func46, Try.ntmps46
  go_wp2_with fail
  have HB := hide ((below2 W (.cells #[.bool n1, .int .i64 K1, .int .i64 X1, .int .u64 S1] 41) (.cells #[.bool n2, .int .i64 K2, .int .i64 X2, .int .u64 S2] 41)).drew)
  have HA := hide (And.intro ((at4_new2a W (.bool n1) (.int .i64 K1) (.int .i64 X1) (.int .u64 S1) 41 (.cells #[.bool n2, .int .i64 K2, .int .i64 X2, .int .u64 S2] 41)).below ((Below.refl _ _).drew)) ((at4_new2b W (.cells #[.bool n1, .int .i64 K1, .int .i64 X1, .int .u64 S1] 41) (.bool n2) (.int .i64 K2) (.int .i64 X2) (.int .u64 S2) 41).below ((Below.refl _ _).drew)))
  refine wp_region_held_drew (S := fun w' => (w'.cell? ⟨W.heap.size, 0, none⟩ = some (.bool n1) ∧ w'.cell? ⟨W.heap.size, 1, none⟩ = some (.int .i64 K1) ∧ w'.cell? ⟨W.heap.size, 2, none⟩ = some (.int .i64 X1) ∧ w'.cell? ⟨W.heap.size, 3, none⟩ = some (.int .u64 S1)) ∧ (w'.cell? ⟨W.heap.size + 1, 0, none⟩ = some (.bool n2) ∧ w'.cell? ⟨W.heap.size + 1, 1, none⟩ = some (.int .i64 K2) ∧ w'.cell? ⟨W.heap.size + 1, 2, none⟩ = some (.int .i64 X2) ∧ w'.cell? ⟨W.heap.size + 1, 3, none⟩ = some (.int .u64 S2))) (by kernel_rfl) ?_ (fun hHeld => ?_)
  · (try dsimp only)
    exact unhide HA
  refine wo_start (N := W.heap.size + 1 + 1) (i1 := 8) (d1 := 8) (v1 := #[.slice none 0 0]) (t1 := 65) (f := 1) (n := 8) (T := fun w' => Below W.heap.size W w') (by kernel_rfl) (by kernel_rfl) (fun _ _ _ _ _ h => h) (stable_and (stable_at4 _ _ _ _ _) (stable_at4 _ _ _ _ _)) ?_ (stable_below W) hHeld (unhide HB) (by simp) ?_
  · intro a w K h
    unfold wpOp
    go_simp
    exact Or.inl h
  clear hHeld
  refine wo_take (i := 0) (oi := { dst := some 16, op := _, type := _, pos := _, after := _, guard := _ }) rfl (by kernel_rfl) (by kernel_rfl) (fun _ _ _ h => h) (Or.inl ⟨by rfl, fun w hSw => by (try dsimp only at hSw); go_simp; with_reducible rfl⟩) ?_
  (try simp only [Act.put, List.setIfInBounds_toArray, List.set_cons_zero, List.set_cons_succ])
  refine wo_take (i := 1) (oi := { dst := some 17, op := _, type := _, pos := _, after := _, guard := _ }) rfl (by kernel_rfl) (by kernel_rfl) (fun _ _ _ h => h) (Or.inl ⟨by rfl, fun w hSw => by (try dsimp only at hSw); go_simp; with_reducible rfl⟩) ?_
  (try simp only [Act.put, List.setIfInBounds_toArray, List.set_cons_zero, List.set_cons_succ])
  refine wo_take (i := 3) (oi := { dst := some 19, op := _, type := _, pos := _, after := _, guard := _ }) rfl (by kernel_rfl) (by kernel_rfl) (fun _ _ _ h => h) (Or.inl ⟨by rfl, fun w hSw => by (try dsimp only at hSw); go_simp; with_reducible rfl⟩) ?_
  (try simp only [Act.put, List.setIfInBounds_toArray, List.set_cons_zero, List.set_cons_succ])
  refine wo_take (i := 4) (oi := { dst := some 20, op := _, type := _, pos := _, after := _, guard := _ }) rfl (by kernel_rfl) (by kernel_rfl) (fun _ _ _ h => h) (Or.inl ⟨by rfl, fun w hSw => by (try dsimp only at hSw); go_simp; with_reducible rfl⟩) ?_
  (try simp only [Act.put, List.setIfInBounds_toArray, List.set_cons_zero, List.set_cons_succ])
  refine wo_take (i := 5) (oi := { dst := some 21, op := _, type := _, pos := _, after := _, guard := _ }) rfl (by kernel_rfl) (by kernel_rfl) (fun _ _ _ h => h) (Or.inl ⟨by rfl, fun w hSw => by (try dsimp only at hSw); go_simp; with_reducible rfl⟩) ?_
  (try simp only [Act.put, List.setIfInBounds_toArray, List.set_cons_zero, List.set_cons_succ])
  refine wo_take (i := 6) (oi := { dst := some 22, op := _, type := _, pos := _, after := _, guard := _ }) rfl (by kernel_rfl) (by kernel_rfl) (fun _ _ _ h => h) (Or.inl ⟨by rfl, fun w hSw => by (try dsimp only at hSw); go_simp; with_reducible rfl⟩) ?_
  (try simp only [Act.put, List.setIfInBounds_toArray, List.set_cons_zero, List.set_cons_succ])
  refine wo_call (c := 2) (o := { dst := some 18, op := _, type := _, pos := _, after := _, guard := _ }) rfl (by kernel_rfl) (by kernel_rfl) (fun u hSu hTu Kk hKk => ?_)
  go_simp
  refine (refOf_any S1 _ (unhide HS).1 (unhide HS).2.1).mono ?_
  rintro _ wn ⟨s1, rfl, hN1, hbl⟩
  obtain ⟨a1, m1, c1, rfl⟩ := hN1.slice
  have HTn := hide (And.intro (bthen hTu hbl) hN1)
  clear hTu hN1
  (try go_wp2_with fail)
  refine hKk.out _ _ (fun w' => Below W.heap.size W w' ∧ IsNat w' (.slice a1 m1 c1) S1.toNat) (by assumption) (stable_and (stable_below W) (stable_nat _ _)) (unhide HTn) ?_
  clear hKk Kk HTn
  (try simp only [Act.put, List.setIfInBounds_toArray, List.set_cons_zero, List.set_cons_succ])
  refine wo_call (c := 7) (o := { dst := some 23, op := _, type := _, pos := _, after := _, guard := _ }) rfl (by kernel_rfl) (by kernel_rfl) (fun u hSu hTu Kk hKk => ?_)
  go_simp
  refine (shl_k _ _ _ _ _ d1 _ (unhide HD).1 hTu.2 (unhide HS).2.2.1 (unhide HD).2.1).mono ?_
  rintro _ wn ⟨s2, rfl, hN2, hbl⟩
  obtain ⟨a2, m2, c2, rfl⟩ := hN2.slice
  have HTn := hide (And.intro (bthen hTu.1 hbl) hN2)
  clear hTu hN2
  (try go_wp2_with fail)
  refine hKk.out _ _ (fun w' => Below W.heap.size W w' ∧ IsNat w' (.slice a2 m2 c2) (S1.toNat * 2 ^ d1)) (by assumption) (stable_and (stable_below W) (stable_nat _ _)) (unhide HTn) ?_
  clear hKk Kk HTn
  (try simp only [Act.put, List.setIfInBounds_toArray, List.set_cons_zero, List.set_cons_succ])
  refine wo_fin (by kernel_rfl) (fun wf b1 hSu hTu k1 => ?_)
  (try simp only [Act.put, List.setIfInBounds_toArray, List.set_cons_zero, List.set_cons_succ])
  unfold ptr
  have zb := k1.base
  obtain ⟨f0, f1⟩ := fresh1 k1
  refine anyH_at #[true, true, true, true, true, true, true, true, true, false] (by kernel_rfl) ?_
  refine wpAnyH_ready (rs := [9]) (by kernel_rfl) (by simp) ?_
  refine AllReadyH.cons (o := { dst := none, op := _, type := _, pos := _, after := _, guard := _ }) rfl (fun Kk hKk => ?_) AllReadyH.nil
  go_simp
  refine hKk.out _ _ ?_ (fun hHeld => ?_)
  · (try dsimp only)
    exact ⟨At4.set hSu.1 (by omega) _ _, At4.set hSu.2 (by omega) _ _⟩
  clear hKk Kk
  refine wpAnyH_done (by kernel_rfl) ?_ _
  have HA := hide hHeld
  have HB := hide (bset hTu.1 b1 (by omega) 0 (.slice a2 m2 c2))
  have HM := hide (hTu.2.store f0 (.slice a2 m2 c2))
  have HC1 := hide (set_same1 f0 (.slice a2 m2 c2))
  have ZB := hide zb
  clear hHeld hSu hTu k1 f0 f1 zb
  generalize wf.setCell ⟨b1, 0, none⟩ (.slice a2 m2 c2) = wx at *
  go_wp2_with fail
  have HA := hide (And.intro (At4.below (unhide HA).1 ((Below.refl _ _).drew)) (At4.below (unhide HA).2 ((Below.refl _ _).drew)))
  have HB := hide ((unhide HB).drew)
  have HM := hide ((unhide HM).below ((Below.refl _ _).drew))
  have HC1 := hide (keep1 ((Below.refl _ _).drew) (lt_of_cell (unhide HC1)) (unhide HC1))
  have hz4 : b1 + 1 ≤ wx.drew.heap.size := lt_of_cell (unhide HC1)
  refine wp_region_held_drew (S := fun w' => (w'.cell? ⟨W.heap.size, 0, none⟩ = some (.bool n1) ∧ w'.cell? ⟨W.heap.size, 1, none⟩ = some (.int .i64 K1) ∧ w'.cell? ⟨W.heap.size, 2, none⟩ = some (.int .i64 X1) ∧ w'.cell? ⟨W.heap.size, 3, none⟩ = some (.int .u64 S1)) ∧ (w'.cell? ⟨W.heap.size + 1, 0, none⟩ = some (.bool n2) ∧ w'.cell? ⟨W.heap.size + 1, 1, none⟩ = some (.int .i64 K2) ∧ w'.cell? ⟨W.heap.size + 1, 2, none⟩ = some (.int .i64 X2) ∧ w'.cell? ⟨W.heap.size + 1, 3, none⟩ = some (.int .u64 S2)) ∧ w'.cell? ⟨b1, 0, none⟩ = some (.slice a2 m2 c2)) (by kernel_rfl) ?_ (fun hHeld => ?_)
  · (try dsimp only)
    exact ⟨(unhide HA).1, (unhide HA).2, unhide HC1⟩
  refine wo_start (N := b1 + 1) (i1 := 8) (d1 := 9) (v1 := #[.slice none 0 0]) (t1 := 65) (f := 1) (n := 8) (T := fun w' => Below W.heap.size W w' ∧ IsNat w' (.slice a2 m2 c2) (S1.toNat * 2 ^ d1)) (by kernel_rfl) (by kernel_rfl) (fun _ _ _ _ _ h => h) (stable_and (stable_at4 _ _ _ _ _) (stable_and (stable_at4 _ _ _ _ _) (stable_cell _ _))) ?_ (stable_and (stable_below W) (stable_nat _ _)) hHeld (⟨unhide HB, unhide HM⟩) (hz4) ?_
  · intro a w K h
    unfold wpOp
    go_simp
    exact Or.inl h
  clear hHeld
  refine wo_take (i := 0) (oi := { dst := some 24, op := _, type := _, pos := _, after := _, guard := _ }) rfl (by kernel_rfl) (by kernel_rfl) (fun _ _ _ h => h) (Or.inl ⟨by rfl, fun w hSw => by (try dsimp only at hSw); go_simp; with_reducible rfl⟩) ?_
  (try simp only [Act.put, List.setIfInBounds_toArray, List.set_cons_zero, List.set_cons_succ])
  refine wo_take (i := 1) (oi := { dst := some 25, op := _, type := _, pos := _, after := _, guard := _ }) rfl (by kernel_rfl) (by kernel_rfl) (fun _ _ _ h => h) (Or.inl ⟨by rfl, fun w hSw => by (try dsimp only at hSw); go_simp; with_reducible rfl⟩) ?_
  (try simp only [Act.put, List.setIfInBounds_toArray, List.set_cons_zero, List.set_cons_succ])
  refine wo_take (i := 3) (oi := { dst := some 27, op := _, type := _, pos := _, after := _, guard := _ }) rfl (by kernel_rfl) (by kernel_rfl) (fun _ _ _ h => h) (Or.inl ⟨by rfl, fun w hSw => by (try dsimp only at hSw); go_simp; with_reducible rfl⟩) ?_
  (try simp only [Act.put, List.setIfInBounds_toArray, List.set_cons_zero, List.set_cons_succ])
  refine wo_take (i := 4) (oi := { dst := some 28, op := _, type := _, pos := _, after := _, guard := _ }) rfl (by kernel_rfl) (by kernel_rfl) (fun _ _ _ h => h) (Or.inl ⟨by rfl, fun w hSw => by (try dsimp only at hSw); go_simp; with_reducible rfl⟩) ?_
  (try simp only [Act.put, List.setIfInBounds_toArray, List.set_cons_zero, List.set_cons_succ])
  refine wo_take (i := 5) (oi := { dst := some 29, op := _, type := _, pos := _, after := _, guard := _ }) rfl (by kernel_rfl) (by kernel_rfl) (fun _ _ _ h => h) (Or.inl ⟨by rfl, fun w hSw => by (try dsimp only at hSw); go_simp; with_reducible rfl⟩) ?_
  (try simp only [Act.put, List.setIfInBounds_toArray, List.set_cons_zero, List.set_cons_succ])
  refine wo_take (i := 6) (oi := { dst := some 30, op := _, type := _, pos := _, after := _, guard := _ }) rfl (by kernel_rfl) (by kernel_rfl) (fun _ _ _ h => h) (Or.inl ⟨by rfl, fun w hSw => by (try dsimp only at hSw); go_simp; with_reducible rfl⟩) ?_
  (try simp only [Act.put, List.setIfInBounds_toArray, List.set_cons_zero, List.set_cons_succ])
  refine wo_call (c := 2) (o := { dst := some 26, op := _, type := _, pos := _, after := _, guard := _ }) rfl (by kernel_rfl) (by kernel_rfl) (fun u hSu hTu Kk hKk => ?_)
  go_simp
  refine (refOf_any S2 _ (unhide HS).2.2.2.1 (unhide HS).2.2.2.2.1).mono ?_
  rintro _ wn ⟨s3, rfl, hN3, hbl⟩
  obtain ⟨a3, m3, c3, rfl⟩ := hN3.slice
  have HTn := hide (And.intro (bthen hTu.1 hbl) (And.intro (hTu.2.below hbl) hN3))
  clear hTu hN3
  (try go_wp2_with fail)
  refine hKk.out _ _ (fun w' => Below W.heap.size W w' ∧ IsNat w' (.slice a2 m2 c2) (S1.toNat * 2 ^ d1) ∧ IsNat w' (.slice a3 m3 c3) S2.toNat) (by assumption) (stable_and (stable_below W) (stable_and (stable_nat _ _) (stable_nat _ _))) (unhide HTn) ?_
  clear hKk Kk HTn
  (try simp only [Act.put, List.setIfInBounds_toArray, List.set_cons_zero, List.set_cons_succ])
  refine wo_call (c := 7) (o := { dst := some 31, op := _, type := _, pos := _, after := _, guard := _ }) rfl (by kernel_rfl) (by kernel_rfl) (fun u hSu hTu Kk hKk => ?_)
  go_simp
  refine (shl_k _ _ _ _ _ d2 _ (unhide HD).2.2.1 hTu.2.2 (unhide HS).2.2.2.2.2 (unhide HD).2.2.2).mono ?_
  rintro _ wn ⟨s4, rfl, hN4, hbl⟩
  obtain ⟨a4, m4, c4, rfl⟩ := hN4.slice
  have HTn := hide (And.intro (bthen hTu.1 hbl) (And.intro (hTu.2.1.below hbl) hN4))
  clear hTu hN4
  (try go_wp2_with fail)
  refine hKk.out _ _ (fun w' => Below W.heap.size W w' ∧ IsNat w' (.slice a2 m2 c2) (S1.toNat * 2 ^ d1) ∧ IsNat w' (.slice a4 m4 c4) (S2.toNat * 2 ^ d2)) (by assumption) (stable_and (stable_below W) (stable_and (stable_nat _ _) (stable_nat _ _))) (unhide HTn) ?_
  clear hKk Kk HTn
  (try simp only [Act.put, List.setIfInBounds_toArray, List.set_cons_zero, List.set_cons_succ])
  refine wo_fin (by kernel_rfl) (fun wf b2 hSu hTu k1 => ?_)
  (try simp only [Act.put, List.setIfInBounds_toArray, List.set_cons_zero, List.set_cons_succ])
  unfold ptr
  have zb := k1.base
  obtain ⟨f0, f1⟩ := fresh1 k1
  refine anyH_at #[true, true, true, true, true, true, true, true, true, false] (by kernel_rfl) ?_
  refine wpAnyH_ready (rs := [9]) (by kernel_rfl) (by simp) ?_
  refine AllReadyH.cons (o := { dst := none, op := _, type := _, pos := _, after := _, guard := _ }) rfl (fun Kk hKk => ?_) AllReadyH.nil
  go_simp
  refine hKk.out _ _ ?_ (fun hHeld => ?_)
  · (try dsimp only)
    exact ⟨At4.set hSu.1 (by have := unhide ZB; omega) _ _, At4.set hSu.2.1 (by have := unhide ZB; omega) _ _, keep_set _ _ _ (by omega) hSu.2.2⟩
  clear hKk Kk
  refine wpAnyH_done (by kernel_rfl) ?_ _
  have HK : Hid (ESt W b1 b2 n1 n2 K1 X1 S1 K2 X2 S2 (.slice a2 m2 c2) (.slice a4 m4 c4) (S1.toNat * 2 ^ d1) (S2.toNat * 2 ^ d2) (wf.setCell ⟨b2, 0, none⟩ (.slice a4 m4 c4))) :=
    { a1 := hHeld.1, a2 := hHeld.2.1, c1 := hHeld.2.2, c2 := set_same1 f0 _, m1 := hTu.2.1.store f0 _, m2 := hTu.2.2.store f0 _, bel := bset hTu.1 b2 (by have := unhide ZB; omega) 0 _ }
  clear hHeld hSu hTu k1 f0 f1 zb HA HB HM HC1 hz4
  generalize wf.setCell ⟨b2, 0, none⟩ (.slice a4 m4 c4) = wy at *
  have s0 := (unhide HK).a1.1
  have s1 := (unhide HK).a2.1
  have p0 := (unhide HK).c1
  have q0 := (unhide HK).c2
  go_wp2_with fail
  refine (refCmp_any _ _ _ _ _ _ _ _ _ (unhide HK).m1 (unhide HK).m2).mono ?_
  rw [unhide HV]
  rintro _ w4 ⟨rfl, hbl⟩
  clear s0 s1 p0 q0
  have HK := hide ((unhide HK).below hbl)
  clear hbl
  have s0 := (unhide HK).a1.1
  have s1 := (unhide HK).a2.1
  have p0 := (unhide HK).c1
  have q0 := (unhide HK).c2
  go_wp2_with fail
  clear s0 s1 p0 q0
  have HK := hide ((unhide HK).below ((Below.refl _ _).drew))
  refine wp_region_held_drew (S := fun w' => (w'.cell? ⟨W.heap.size, 0, none⟩ = some (.bool n1) ∧ w'.cell? ⟨W.heap.size, 1, none⟩ = some (.int .i64 K1) ∧ w'.cell? ⟨W.heap.size, 2, none⟩ = some (.int .i64 X1) ∧ w'.cell? ⟨W.heap.size, 3, none⟩ = some (.int .u64 S1)) ∧ (w'.cell? ⟨W.heap.size + 1, 0, none⟩ = some (.bool n2) ∧ w'.cell? ⟨W.heap.size + 1, 1, none⟩ = some (.int .i64 K2) ∧ w'.cell? ⟨W.heap.size + 1, 2, none⟩ = some (.int .i64 X2) ∧ w'.cell? ⟨W.heap.size + 1, 3, none⟩ = some (.int .u64 S2)) ∧ w'.cell? ⟨b1, 0, none⟩ = some (.slice a2 m2 c2) ∧ w'.cell? ⟨b2, 0, none⟩ = some (.slice a4 m4 c4)) (by kernel_rfl) ?_ (fun hHeld => ?_)
  · (try dsimp only)
    exact ⟨(unhide HK).a1, (unhide HK).a2, (unhide HK).c1, (unhide HK).c2⟩
  refine anyH_at #[false, false, false, false, false, false, false, false, false] (by kernel_rfl) ?_
  refine wpAnyH_take (i := 0) (oi := { dst := some 60, op := _, type := _, pos := _, after := _, guard := _ }) (v := ?vv0z) rfl (by kernel_rfl) (by kernel_rfl) (by kernel_rfl) (fun _ _ _ h => h) (Or.inl ⟨by rfl, ?hy0z⟩) (by assumption) ?rest0z
  case hy0z => ((intro w hSw; (try dsimp only at hSw); go_simp) <;> with_reducible rfl)
  case rest0z =>
    (try simp only [Act.put, List.setIfInBounds_toArray, List.set_cons_zero, List.set_cons_succ])
    refine anyH_at #[true, false, false, false, false, false, false, false, false] (by kernel_rfl) ?_
    refine wpAnyH_take (i := 1) (oi := { dst := some 61, op := _, type := _, pos := _, after := _, guard := _ }) (v := ?vv1z) rfl (by kernel_rfl) (by kernel_rfl) (by kernel_rfl) (fun _ _ _ h => h) (Or.inl ⟨by rfl, ?hy1z⟩) (by assumption) ?rest1z
    case hy1z => ((intro w hSw; (try dsimp only at hSw); go_simp) <;> with_reducible rfl)
    case rest1z =>
      (try simp only [Act.put, List.setIfInBounds_toArray, List.set_cons_zero, List.set_cons_succ])
      refine anyH_at #[true, true, false, false, false, false, false, false, false] (by kernel_rfl) ?_
      refine wpAnyH_take (i := 2) (oi := { dst := some 62, op := _, type := _, pos := _, after := _, guard := _ }) (v := ?vv2z) rfl (by kernel_rfl) (by kernel_rfl) (by kernel_rfl) (fun _ _ _ h => h) (Or.inl ⟨by rfl, ?hy2z⟩) (by assumption) ?rest2z
      case hy2z => ((intro w hSw; (try dsimp only at hSw); go_simp) <;> with_reducible rfl)
      case rest2z =>
        (try simp only [Act.put, List.setIfInBounds_toArray, List.set_cons_zero, List.set_cons_succ])
        refine anyH_at #[true, true, true, false, false, false, false, false, false] (by kernel_rfl) ?_
        refine wpAnyH_take (i := 3) (oi := { dst := some 63, op := _, type := _, pos := _, after := _, guard := _ }) (v := ?vv3z) rfl (by kernel_rfl) (by kernel_rfl) (by kernel_rfl) (fun _ _ _ h => h) (Or.inl ⟨by rfl, ?hy3z⟩) (by assumption) ?rest3z
        case hy3z => ((intro w hSw; (try dsimp only at hSw); go_simp) <;> with_reducible rfl)
        case rest3z =>
          (try simp only [Act.put, List.setIfInBounds_toArray, List.set_cons_zero, List.set_cons_succ])
          refine anyH_at #[true, true, true, true, false, false, false, false, false] (by kernel_rfl) ?_
          refine wpAnyH_take (i := 4) (oi := { dst := some 64, op := _, type := _, pos := _, after := _, guard := _ }) (v := ?vv4z) rfl (by kernel_rfl) (by kernel_rfl) (by kernel_rfl) (fun _ _ _ h => h) (Or.inl ⟨by rfl, ?hy4z⟩) (by assumption) ?rest4z
          case hy4z => ((intro w hSw; (try dsimp only at hSw); go_simp) <;> with_reducible rfl)
          case rest4z =>
            (try simp only [Act.put, List.setIfInBounds_toArray, List.set_cons_zero, List.set_cons_succ])
            refine anyH_at #[true, true, true, true, true, false, false, false, false] (by kernel_rfl) ?_
            refine wpAnyH_take (i := 6) (oi := { dst := some 66, op := _, type := _, pos := _, after := _, guard := _ }) (v := ?vv6z) rfl (by kernel_rfl) (by kernel_rfl) (by kernel_rfl) (fun _ _ _ h => h) (Or.inl ⟨by rfl, ?hy6z⟩) (by assumption) ?rest6z
            case hy6z => ((intro w hSw; (try dsimp only at hSw); go_simp) <;> with_reducible rfl)
            case rest6z =>
              (try simp only [Act.put, List.setIfInBounds_toArray, List.set_cons_zero, List.set_cons_succ])
              refine anyH_at #[true, true, true, true, true, false, true, false, false] (by kernel_rfl) ?_
              refine wpAnyH_ready (rs := [5]) (by kernel_rfl) (by simp) ?_
              refine AllReadyH.cons (o := { dst := some 65, op := _, type := _, pos := _, after := _, guard := _ }) rfl (fun Kk hKk => ?_) AllReadyH.nil
              go_simp
              refine (sub_k _ _ _ _ _ _ _ _ _ (unhide HK).m1 (unhide HK).m2 (unhide H3).1 (unhide hle)).mono ?_
              rintro _ w5 ⟨s5, rfl, hN5, hbl⟩
              obtain ⟨a5, m5, c5, rfl⟩ := hN5.slice
              have HK := hide ((unhide HK).below hbl)
              have H5 := hide hN5
              clear hbl hN5
              (try go_wp2_with fail)
              refine hKk.out _ _ ?_ (fun hHeld => ?_)
              · (try dsimp only)
                exact ⟨(unhide HK).a1, (unhide HK).a2, (unhide HK).c1, (unhide HK).c2⟩
              clear hKk Kk
              (try simp only [List.setIfInBounds_toArray, List.set_cons_zero, List.set_cons_succ])
              refine anyH_at #[true, true, true, true, true, true, true, false, false] (by kernel_rfl) ?_
              refine wpAnyH_ready (rs := [7]) (by kernel_rfl) (by simp) ?_
              refine AllReadyH.cons (o := { dst := some 67, op := _, type := _, pos := _, after := _, guard := _ }) rfl (fun Kk hKk => ?_) AllReadyH.nil
              go_simp
              refine (unhide HE _ _ _ _ (unhide H5)).mono ?_
              rintro _ w6 ⟨rfl, hbl⟩
              have HK := hide ((unhide HK).below hbl)
              clear hbl
              (try go_wp2_with fail)
              refine hKk.out _ _ ?_ (fun hHeld => ?_)
              · (try dsimp only)
                exact ⟨(unhide HK).a1, (unhide HK).a2, (unhide HK).c1, (unhide HK).c2⟩
              clear hKk Kk
              (try simp only [List.setIfInBounds_toArray, List.set_cons_zero, List.set_cons_succ])
              refine anyH_at #[true, true, true, true, true, true, true, true, false] (by kernel_rfl) ?_
              refine wpAnyH_take (i := 8) (oi := { dst := some 6, op := _, type := _, pos := _, after := _, guard := _ }) (v := ?vv8z) rfl (by kernel_rfl) (by kernel_rfl) (by kernel_rfl) (fun _ _ _ h => h) (Or.inl ⟨by rfl, ?hy8z⟩) (by assumption) ?rest8z
              case hy8z => ((intro w hSw; (try dsimp only at hSw); go_simp) <;> with_reducible rfl)
              case rest8z =>
                (try simp only [Act.put, List.setIfInBounds_toArray, List.set_cons_zero, List.set_cons_succ])
                refine anyH_at #[true, true, true, true, true, true, true, true, true] (by kernel_rfl) ?_
                refine wpAnyH_done (by kernel_rfl) ?_ _
                go_wp2
                go_ret
                exact ⟨rfl, (unhide HK).bel⟩
  

end Go.Proofs.Yticbhdgamblmbaa
