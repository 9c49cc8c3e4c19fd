/- WRefJ. -/
import Derived.Test.YtahdcbjfabccpaaT24
namespace Go.Proofs.Ytahdcbjfabccpaa.W
open Go.RowKit

theorem pow_ne (k : Nat) : 1 * 2 ^ k ≠ 0 := by rw [Nat.one_mul]; exact Nat.ne_of_gt (Nat.two_pow_pos k)

theorem IsNat.pos {w : World} {a : Option Addr} {n c x : Nat} (h : IsNat w (.slice a n c) x) : (0 < n) = (x ≠ 0) := by
  refine propext ⟨fun hn hx => ?_, fun hx => ?_⟩
  · have := h.short (k := 0) (by rw [pw_0]; omega)
    omega
  · refine Decidable.byContradiction fun hn => ?_
    have := h.len.1
    rw [show n = 0 by omega, pw_0] at this
    omega

set_option maxRecDepth 100000 in
set_option maxHeartbeats 2000000 in
theorem half_any (a : Option Addr) (n c x k : Nat) (w : World) (hx : IsNat w (.slice a n c) x) (bx : x < pw 300) (hk : k ≤ 600) :
    Calls Try.prog 68 #[.agg #[.slice a n c], .int .i64 (k : Int)] w fun e w' => ∃ s1, e = .returned (.tuple #[.agg #[s1], .bool (decide (x % 2 ^ k ≠ 0))]) ∧ IsNat w' s1 (x / 2 ^ k) ∧ Below w.heap.size w w' := by
  have HX := hide hx; have HBX := hide bx
  clear hx bx
  go_enter Try.func68, Try.ntmps68
  go_wp2_with fail
  refine wp_region_held_drew (S := fun w' => w'.cell? ⟨w.heap.size, 0, none⟩ = some (.slice a n c)) (by kernel_rfl) ?_ (fun hHeld => ?_)
  · simp [go_sem]
  refine wu_start (N := w.heap.size + 2) (i1 := 8) (d1 := 6) (v1 := .slice none 0 0) (t1 := 57) (i2 := 9) (d2 := 7) (v2 := .slice none 0 0) (t2 := 57) (f := 2) (n := 8) 
    (T := fun w' => IsNat w' (.slice a n c) x ∧ Below w.heap.size w w' ∧ (w'.cell? ⟨w.heap.size + 1, 0, none⟩ = some (.slice none 0 0) ∧ w'.frozen? ⟨w.heap.size + 1, 0, none⟩ = false))
    (by kernel_rfl) (by kernel_rfl) (fun _ _ _ _ _ h => h) (stable_cell _ _) (by decide) (by decide) ?_ ?_ ((stable_nat _ _).and ((stable_below _).and (stable_var _ _))) hHeld ?_ ?_ ?_
  · intro a w K h
    unfold wpOp
    go_simp
    exact Or.inl h
  · intro a w K h
    unfold wpOp
    go_simp
    exact Or.inl h
  · refine ⟨(unhide HX).below (below2d _ _ _), below2d _ _ _, by simp [go_sem], by simp [go_sem]⟩
  · simp
  refine wu_take (i := 0) (oi := { dst := some 9, op := _, type := _, pos := _, after := _, guard := _ }) rfl (by kernel_rfl) (by kernel_rfl) (fun _ _ _ h => h) (Or.inl ⟨by rfl, fun w hSw => by (try dsimp only at hSw); go_simp; with_reducible rfl⟩) ?_
  (try simp only [Act.put, List.setIfInBounds_toArray, List.set_cons_zero, List.set_cons_succ])
  refine wu_take (i := 2) (oi := { dst := some 11, op := _, type := _, pos := _, after := _, guard := _ }) rfl (by kernel_rfl) (by kernel_rfl) (fun _ _ _ h => h) (Or.inl ⟨by rfl, fun w hSw => by (try dsimp only at hSw); go_simp; with_reducible rfl⟩) ?_
  (try simp only [Act.put, List.setIfInBounds_toArray, List.set_cons_zero, List.set_cons_succ])
  refine wu_call (c := 1) (o := { dst := some 10, op := _, type := _, pos := _, after := _, guard := _ }) rfl (by kernel_rfl) (by kernel_rfl) (fun u hSu hTu K hK => ?_)
  go_simp
  refine (refOf_1 _).mono ?_
  rintro e w8 ⟨s8, rfl, hN8, hb8⟩
  obtain ⟨a8, n8, c8, rfl⟩ := hN8.slice
  have HT := hide ((((stable_nat _ _).and ((stable_below _).and (stable_var _ _))) _ _ hTu hb8)); clear hTu hSu
  (try go_wp2_with fail)
  refine hK.out _ _ (fun w' => IsNat w' (.slice a8 n8 c8) 1 ∧ IsNat w' (.slice a n c) x ∧ Below w.heap.size w w' ∧ (w'.cell? ⟨w.heap.size + 1, 0, none⟩ = some (.slice none 0 0) ∧ w'.frozen? ⟨w.heap.size + 1, 0, none⟩ = false)) (by assumption) ((stable_nat _ _).and ((stable_nat _ _).and ((stable_below _).and (stable_var _ _)))) (⟨hN8, unhide HT⟩) ?_
  clear hK K
  (try simp only [Act.put, List.setIfInBounds_toArray, List.set_cons_zero, List.set_cons_succ])
  clear HT hN8
  refine wu_call (c := 3) (o := { dst := some 12, op := _, type := _, pos := _, after := _, guard := _ }) rfl (by kernel_rfl) (by kernel_rfl) (fun u hSu hTu K hK => ?_)
  go_simp
  refine (refShl_any a8 n8 c8 1 k _ hTu.1 (Nat.le_trans (hTu.1.short (k := 1) (by rw [pw_1]; omega)) (by omega)) (by omega)).mono ?_
  rintro e w9 ⟨s9, rfl, hN9, hb9⟩
  obtain ⟨a9, n9, c9, rfl⟩ := hN9.slice
  have HT := hide ((((stable_nat _ _).and ((stable_below _).and (stable_var _ _))) _ _ hTu.2 hb9)); clear hTu hSu
  (try go_wp2_with fail)
  refine hK.out _ _ (fun w' => IsNat w' (.slice a9 n9 c9) (1 * 2 ^ k) ∧ IsNat w' (.slice a n c) x ∧ Below w.heap.size w w' ∧ (w'.cell? ⟨w.heap.size + 1, 0, none⟩ = some (.slice none 0 0) ∧ w'.frozen? ⟨w.heap.size + 1, 0, none⟩ = false)) (by assumption) ((stable_nat _ _).and ((stable_nat _ _).and ((stable_below _).and (stable_var _ _)))) (⟨hN9, unhide HT⟩) ?_
  clear hK K
  (try simp only [Act.put, List.setIfInBounds_toArray, List.set_cons_zero, List.set_cons_succ])
  clear HT hN9
  refine wu_call (c := 4) (o := { dst := some 13, op := _, type := _, pos := _, after := _, guard := _ }) rfl (by kernel_rfl) (by kernel_rfl) (fun u hSu hTu K hK => ?_)
  go_simp
  refine (refDiv_any a a9 n c n9 c9 x (1 * 2 ^ k) _ hTu.2.1 hTu.1 (pow_ne k) (unhide HBX) (pow_pw (by omega))).mono ?_
  rintro e w10 ⟨s10, s11, rfl, hN10, hN11, hb10⟩
  obtain ⟨a10, n10, c10, rfl⟩ := hN10.slice
  obtain ⟨a11, n11, c11, rfl⟩ := hN11.slice
  have HT := hide ((((stable_below _).and (stable_var _ _))) _ _ hTu.2.2 hb10); clear hTu hSu
  (try go_wp2_with fail)
  refine hK.out _ _ (fun w' => IsNat w' (.slice a10 n10 c10) (x / (1 * 2 ^ k)) ∧ IsNat w' (.slice a11 n11 c11) (x % (1 * 2 ^ k)) ∧ Below w.heap.size w w' ∧ (w'.cell? ⟨w.heap.size + 1, 0, none⟩ = some (.slice none 0 0) ∧ w'.frozen? ⟨w.heap.size + 1, 0, none⟩ = false)) (by assumption) ((stable_nat _ _).and ((stable_nat _ _).and ((stable_below _).and (stable_var _ _)))) (⟨hN10, hN11, unhide HT⟩) ?_
  clear hK K
  (try simp only [Act.put, List.setIfInBounds_toArray, List.set_cons_zero, List.set_cons_succ])
  clear HT hN10 hN11
  refine wu_take (i := 5) (oi := { dst := some 8, op := _, type := _, pos := _, after := _, guard := _ }) rfl (by kernel_rfl) (by kernel_rfl) (fun _ _ _ h => h) (Or.inl ⟨by rfl, fun w hSw => by (try dsimp only at hSw); go_simp; with_reducible rfl⟩) ?_
  (try simp only [Act.put, List.setIfInBounds_toArray, List.set_cons_zero, List.set_cons_succ])
  refine wu_take (i := 6) (oi := { dst := some 14, op := _, type := _, pos := _, after := _, guard := _ }) rfl (by kernel_rfl) (by kernel_rfl) (fun _ _ _ h => h) (Or.inl ⟨by rfl, fun w hSw => by (try dsimp only at hSw); go_simp; with_reducible rfl⟩) ?_
  (try simp only [Act.put, List.setIfInBounds_toArray, List.set_cons_zero, List.set_cons_succ])
  refine wu_take (i := 7) (oi := { dst := some 15, op := _, type := _, pos := _, after := _, guard := _ }) rfl (by kernel_rfl) (by kernel_rfl) (fun _ _ _ h => h) (Or.inl ⟨by rfl, fun w hSw => by (try dsimp only at hSw); go_simp; with_reducible rfl⟩) ?_
  (try simp only [Act.put, List.setIfInBounds_toArray, List.set_cons_zero, List.set_cons_succ])
  refine wu_fin (by kernel_rfl) (fun w11 b1 b2 hb hSu hTu k1 k2 => ?_)
  (try simp only [Act.put, List.setIfInBounds_toArray, List.set_cons_zero, List.set_cons_succ])
  obtain ⟨h1, h2, h3, h4, h5⟩ := hTu
  have c1 := k1.cell; have f1 := k1.thawed; have c2 := k2.cell; have f2 := k2.thawed
  have z1 := k1.base; have z2 := k2.base
  unfold ptr
  have hc2 : (w11.setCell ⟨b1, 0, none⟩ (.slice a10 n10 c10)).cell? ⟨b2, 0, none⟩ = some (.slice none 0 0) := by rw [World.cell?_setCell_other _ _ _ _ (by intro he; injection he with he1; omega)]; exact c2
  have hr2 : ((w11.setCell ⟨b1, 0, none⟩ (.slice a10 n10 c10)).setCell ⟨b2, 0, none⟩ (.slice a11 n11 c11)).cell? ⟨w.heap.size + 1, 0, none⟩ = some (.slice none 0 0) := by
    rw [World.cell?_setCell_other _ _ _ _ (by intro he; injection he with he1; omega), World.cell?_setCell_other _ _ _ _ (by intro he; injection he with he1; omega)]; exact h4
  have hr1 : ((w11.setCell ⟨b1, 0, none⟩ (.slice a10 n10 c10)).setCell ⟨b2, 0, none⟩ (.slice a11 n11 c11)).cell? ⟨b1, 0, none⟩ = some (.slice a10 n10 c10) := by
    rw [World.cell?_setCell_other _ _ _ _ (by intro he; injection he with he1; omega)]; exact World.cell?_setCell_same _ _ _ c1
  have hr0 : ((w11.setCell ⟨b1, 0, none⟩ (.slice a10 n10 c10)).setCell ⟨b2, 0, none⟩ (.slice a11 n11 c11)).cell? ⟨b2, 0, none⟩ = some (.slice a11 n11 c11) := World.cell?_setCell_same _ _ _ hc2
  have hs2 : ((w11.setCell ⟨b1, 0, none⟩ (.slice a10 n10 c10)).setCell ⟨b2, 0, none⟩ (.slice a11 n11 c11)).cell? ⟨w.heap.size, 0, none⟩ = some (.slice a n c) := by
    rw [World.cell?_setCell_other _ _ _ _ (by intro he; injection he with he1; omega), World.cell?_setCell_other _ _ _ _ (by intro he; injection he with he1; omega)]; exact hSu
  refine anyH_at #[true, true, true, true, true, true, true, true, true, true, false, false] (by kernel_rfl) ?_
  refine wpAnyH_ready (rs := [10]) (by kernel_rfl) (by simp) ?_
  refine AllReadyH.cons (o := { dst := none, op := _, type := _, pos := _, after := _, guard := _ }) rfl (fun K hK => ?_) AllReadyH.nil
  go_simp
  refine hK.out _ _ ?_ (fun hHeld => ?_)
  · rw [World.cell?_setCell_other _ _ _ _ (by intro he; injection he with he1; omega)]; exact hSu
  clear hK K
  refine anyH_at #[true, true, true, true, true, true, true, true, true, true, true, false] (by kernel_rfl) ?_
  refine wpAnyH_ready (rs := [11]) (by kernel_rfl) (by simp) ?_
  refine AllReadyH.cons (o := { dst := none, op := _, type := _, pos := _, after := _, guard := _ }) rfl (fun K hK => ?_) AllReadyH.nil
  go_simp
  refine hK.out _ _ hs2 (fun hHeld => ?_)
  clear hK K
  refine wpAnyH_done (by kernel_rfl) ?_ _
  have B2 : Below w.heap.size w ((w11.setCell ⟨b1, 0, none⟩ (.slice a10 n10 c10)).setCell ⟨b2, 0, none⟩ (.slice a11 n11 c11)) := (h3.setCell (by simp; omega) _).setCell (by simp; omega) _
  have N1 := hide (store_two h1 c1 c2 hb (.slice a10 n10 c10) (.slice a11 n11 c11)); have N2 := hide (store_two h2 c1 c2 hb (.slice a10 n10 c10) (.slice a11 n11 c11))
  have f5 : ((w11.setCell ⟨b1, 0, none⟩ (.slice a10 n10 c10)).setCell ⟨b2, 0, none⟩ (.slice a11 n11 c11)).frozen? ⟨w.heap.size + 1, 0, none⟩ = false := by rw [frozen_set, frozen_set]; exact h5
  generalize (w11.setCell ⟨b1, 0, none⟩ (.slice a10 n10 c10)).setCell ⟨b2, 0, none⟩ (.slice a11 n11 c11) = w12 at *
  clear hHeld hs2 hc2 c1 c2 f1 f2 h1 h2 h3 h4 h5 hSu k1 k2 hb8 hb9 hb10
  have hw : w.heap.size + 1 ≠ b1 ∧ w.heap.size + 1 ≠ b2 := ⟨by omega, by omega⟩
  go_wp2_with fail
  go_region
  all_goals
    go_wp2
    refine bodyPost_ret (v := .tuple #[.agg #[.slice a10 n10 c10], .bool (decide ((0 : Int) < (n11 : Int)))]) (by simp [results, Try.results68, go_sem, hr2]) rfl ⟨.slice a10 n10 c10, ?_, ?_, ?_⟩
    · have h := (unhide N2).pos
      rw [Nat.one_mul] at h
      simp only [← h]
      simp
    · have h := (unhide N1).store hr2 (.slice a10 n10 c10)
      rw [Nat.one_mul] at h
      exact h
    · exact (B2.setCell (by simp) _).drew

end Go.Proofs.Ytahdcbjfabccpaa.W
