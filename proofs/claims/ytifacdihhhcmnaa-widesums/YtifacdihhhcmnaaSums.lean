/- The statement WideSums: its walk. -/
import Derived.Test.YtifacdihhhcmnaaNewOne
import Derived.Test.YtifacdihhhcmnaaRefK
import Derived.Test.YtifacdihhhcmnaaAdd
namespace Go.Proofs.Ytifacdihhhcmnaa
open Go.RowKit

theorem shl_128 (a : Option Addr) (n c : Nat) (w : World) (h : IsNat w (.slice a n c) 1) :
    Calls Try.prog 13 #[.agg #[.slice a n c], .int .i64 128] w fun e w' => ∃ s', e = .returned (.agg #[s']) ∧ IsNat w' s' 340282366920938463463374607431768211456 ∧ Below w.heap.size w w' :=
  refShl_any a n c 1 128 w h (Nat.le_trans (h.short (k := 1) (by rw [pw_1]; omega)) (by omega)) (by omega)
theorem four_store {w : World} {N M b : Nat} {x0 x1 y0 y1 : Value} (hN : N < b) (hM : M < b) (s : Value)
    (h : w.cell? ⟨N, 0, none⟩ = some x0 ∧ w.cell? ⟨N, 1, none⟩ = some x1 ∧ w.cell? ⟨M, 0, none⟩ = some y0 ∧ w.cell? ⟨M, 1, none⟩ = some y1) :
    (w.setCell ⟨b, 0, none⟩ s).cell? ⟨N, 0, none⟩ = some x0 ∧ (w.setCell ⟨b, 0, none⟩ s).cell? ⟨N, 1, none⟩ = some x1 ∧ (w.setCell ⟨b, 0, none⟩ s).cell? ⟨M, 0, none⟩ = some y0 ∧ (w.setCell ⟨b, 0, none⟩ s).cell? ⟨M, 1, none⟩ = some y1 := by
  have o : ∀ j i, j < b → (w.setCell ⟨b, 0, none⟩ s).cell? ⟨j, i, none⟩ = w.cell? ⟨j, i, none⟩ := fun j i hj => World.cell?_setCell_other _ _ _ _ (by intro he; injection he with he1; omega)
  rw [o _ _ hN, o _ _ hN, o _ _ hM, o _ _ hM]
  exact h
theorem one_store {w : World} {N b : Nat} {x : Value} (hN : N ≠ b) (s : Value) (h : w.cell? ⟨N, 0, none⟩ = some x) : (w.setCell ⟨b, 0, none⟩ s).cell? ⟨N, 0, none⟩ = some x := by
  rw [World.cell?_setCell_other _ _ _ _ (by intro he; injection he with he1; exact hN he1.symm)]; exact h
theorem beq_cmp (v u : Nat) : (cmpN v u == cmpN v u) = true := by simp

set_option maxRecDepth 100000 in
set_option maxHeartbeats 8000000 in
theorem sums_any (v u : Nat) (w : World) (hv : W2 v) (hu : W2 u) :
    Calls Try.prog 3 #[.agg #[.int .u64 (hi v), .int .u64 (lo v)], .agg #[.int .u64 (hi u), .int .u64 (lo u)]] w fun e w' => e = .returned (.bool true) ∧ Below w.heap.size w w' := by
  have CNv := hide (fun w => nat_any v w hv); have CNu := hide (fun w => nat_any u w hu)
  have HV4 := hide (show v < pw 4 by rw [pw_4]; exact hv); have HU4 := hide (show u < pw 4 by rw [pw_4]; exact hu)
  have CA := hide (fun w => add_n v u w); have CS := hide (fun w => sub_n v u w hu)
  have HA := hide (show (v + u) % 340282366920938463463374607431768211456 = addN v u from rfl); have HAw := hide (addN_w v u)
  have HS := hide (show (v + 340282366920938463463374607431768211456 - u) % 340282366920938463463374607431768211456 = subN v u by unfold subN; unfold W2 at hu; rw [Nat.add_sub_assoc (by omega)]); have HSw := hide (subN_w v u)
  have HuM := hide (show u ≤ v + 340282366920938463463374607431768211456 by unfold W2 at hu; omega)
  have HM4 := hide (show (340282366920938463463374607431768211456 : Nat) < pw 5 by rw [show pw 5 = 1461501637330902918203684832716283019655932542976 from rfl]; omega)
  have HvM := hide (show v + 340282366920938463463374607431768211456 < pw 5 by unfold W2 at hv; rw [show pw 5 = 1461501637330902918203684832716283019655932542976 from rfl]; omega)
  have CSh := hide shl_128
  have CM := hide (fun w => mul_n (lo v) (lo u) w (lo_0 v) (lo_1 v) (lo_0 u) (lo_1 u))
  have CO := hide (fun w => of_n (hi v) w (hi_0 v) (hi_1 hv))
  have CRp := hide (fun w => refOf_any (lo v) w (lo_0 v) (lo_1 v)); have CRq := hide (fun w => refOf_any (lo u) w (lo_0 u) (lo_1 u)); have CRh := hide (fun w => refOf_any (hi v) w (hi_0 v) (hi_1 hv))
  have Hp := hide (show (lo v).toNat < pw 2 by rw [pw_2]; have := lo_1 v; omega); have Hq := hide (show (lo u).toNat < pw 2 by rw [pw_2]; have := lo_1 u; omega)
  have HPw : Hid (W2 ((lo v).toNat * (lo u).toNat)) := by
    unfold Hid W2
    have h1 := lo_1 v; have h2 := lo_1 u; have h3 := lo_0 v; have h4 := lo_0 u
    have := Nat.mul_le_mul (show (lo v).toNat ≤ 18446744073709551615 by omega) (show (lo u).toNat ≤ 18446744073709551615 by omega)
    omega
  have HHw : Hid (W2 (hi v).toNat) := by unfold Hid W2; have := hi_1 hv; omega
  generalize addN v u = A at CA HA HAw
  generalize subN v u = B at CS HS HSw
  obtain ⟨M, hM⟩ : ∃ M : Nat, 340282366920938463463374607431768211456 = M := ⟨_, rfl⟩
  have HMo := hide (refMod_any)
  simp only [Hid, hM] at HS HuM HM4 HvM CSh HMo HA
  replace HS := hide HS; replace HuM := hide HuM; replace HM4 := hide HM4; replace HvM := hide HvM; replace CSh := hide CSh; replace HMo := hide HMo; replace HA := hide HA
  obtain ⟨Dv, hDv⟩ : ∃ Dv, v + M - u = Dv := ⟨_, rfl⟩
  rw [hDv] at HS
  have HDv := hide hDv
  clear hM hDv
  obtain ⟨p, hp⟩ : ∃ p, (lo v).toNat = p := ⟨_, rfl⟩
  obtain ⟨q, hq⟩ : ∃ q, (lo u).toNat = q := ⟨_, rfl⟩
  obtain ⟨h, hh⟩ : ∃ h, (hi v).toNat = h := ⟨_, rfl⟩
  simp only [Hid, hp, hq] at CM HPw
  simp only [Hid, hp] at Hp CRp
  simp only [Hid, hq] at Hq CRq
  simp only [Hid, hh] at CO HHw CRh
  clear hp hq hh hv hu
  obtain ⟨P, hP⟩ : ∃ P, p * q = P := ⟨_, rfl⟩
  simp only [hP] at CM HPw
  replace CM := hide CM; replace HPw := hide HPw; replace Hp := hide Hp; replace CRp := hide CRp; replace Hq := hide Hq; replace CRq := hide CRq; replace CO := hide CO; replace HHw := hide HHw; replace CRh := hide CRh
  have HP := hide hP
  clear hP
  go_enter Try.func3, Try.ntmps3
  go_wp2_with fail
  refine (awake_any _).mono ?_
  rintro e w1 ⟨rfl, hb1⟩
  have HF := hide (((stable_cell _ _).and ((stable_cell _ _).and ((stable_cell _ _).and (stable_cell _ _)))) _ _ (show _ ∧ _ ∧ _ ∧ _ from ⟨by simp [go_sem], by simp [go_sem], by simp [go_sem], by simp [go_sem]⟩) hb1 : w1.cell? ⟨w.heap.size, 0, none⟩ = some (.int .u64 (hi v)) ∧ w1.cell? ⟨w.heap.size, 1, none⟩ = some (.int .u64 (lo v)) ∧ w1.cell? ⟨w.heap.size + 1, 0, none⟩ = some (.int .u64 (hi u)) ∧ w1.cell? ⟨w.heap.size + 1, 1, none⟩ = some (.int .u64 (lo u)))
  have HB1 := hide (bthen (below2 w (.cells #[.int .u64 (hi v), .int .u64 (lo v)] 24) (.cells #[.int .u64 (hi u), .int .u64 (lo u)] 24)) hb1)
  have hz1 : w.heap.size + 2 ≤ w1.heap.size := by have := hb1.size; simp at this; omega
  clear hb1
  go_wp2_with fail
  refine wp_region_held_drew (S := fun w' => w'.cell? ⟨w.heap.size, 0, none⟩ = some (.int .u64 (hi v)) ∧ w'.cell? ⟨w.heap.size, 1, none⟩ = some (.int .u64 (lo v)) ∧ w'.cell? ⟨w.heap.size + 1, 0, none⟩ = some (.int .u64 (hi u)) ∧ w'.cell? ⟨w.heap.size + 1, 1, none⟩ = some (.int .u64 (lo u))) (by kernel_rfl) (unhide HF) (fun hHeld => ?_)
  refine wu_start (N := w.heap.size + 2) (i1 := 4) (d1 := 5) (v1 := .slice none 0 0) (t1 := 28) (i2 := 5) (d2 := 6) (v2 := .slice none 0 0) (t2 := 28) (f := 2) (n := 4)
    (T := fun w' => Below w.heap.size w w')
    (by kernel_rfl) (by kernel_rfl) (fun _ _ _ _ _ h => h) ((stable_cell _ _).and ((stable_cell _ _).and ((stable_cell _ _).and (stable_cell _ _)))) (by decide) (by decide) ?_ ?_ (stable_below _) hHeld (unhide HB1).drew hz1 ?_
  · intro a w K h
    unfold wpOp
    go_simp
    exact Or.inl h
  · intro a w K h
    unfold wpOp
    go_simp
    exact Or.inl h
  clear HF HB1 hz1 hHeld
  refine wu_take (i := 0) (oi := { dst := some 10, op := _, type := _, pos := _, after := _, guard := _ }) rfl (by kernel_rfl) (by kernel_rfl) (fun _ _ _ h => h) (Or.inl ⟨by rfl, fun w hSw => by (try dsimp only at hSw); go_simp; with_reducible rfl⟩) ?_
  (try simp only [Act.put, List.setIfInBounds_toArray, List.set_cons_zero, List.set_cons_succ])
  refine wu_take (i := 2) (oi := { dst := some 12, op := _, type := _, pos := _, after := _, guard := _ }) rfl (by kernel_rfl) (by kernel_rfl) (fun _ _ _ h => h) (Or.inl ⟨by rfl, fun w hSw => by (try dsimp only at hSw); go_simp; with_reducible rfl⟩) ?_
  (try simp only [Act.put, List.setIfInBounds_toArray, List.set_cons_zero, List.set_cons_succ])
  refine wu_call (c := 1) (o := { dst := some 11, op := _, type := _, pos := _, after := _, guard := _ }) rfl (by kernel_rfl) (by kernel_rfl) (fun z hSz hTz Kk hKk => ?_)
  go_simp
  refine (unhide CNv _).mono ?_
  rintro e w2 ⟨sx, rfl, hNx, hbx⟩
  obtain ⟨ax, nx, cx, rfl⟩ := hNx.slice
  have HT := hide (bthen hTz hbx); clear hTz hSz
  (try go_wp2_with fail)
  refine hKk.out _ _ (fun w' => IsNat w' (.slice ax nx cx) v ∧ Below w.heap.size w w') (by assumption) ((stable_nat _ _).and (stable_below _)) (⟨hNx, unhide HT⟩) ?_
  clear hKk Kk
  (try simp only [Act.put, List.setIfInBounds_toArray, List.set_cons_zero, List.set_cons_succ])
  clear HT hNx
  refine wu_call (c := 3) (o := { dst := some 13, op := _, type := _, pos := _, after := _, guard := _ }) rfl (by kernel_rfl) (by kernel_rfl) (fun z hSz hTz Kk hKk => ?_)
  go_simp
  refine (unhide CNu _).mono ?_
  rintro e w3 ⟨sy, rfl, hNy, hby⟩
  obtain ⟨ay, ny, cy, rfl⟩ := hNy.slice
  have HT := hide (((stable_nat _ _).and (stable_below _)) _ _ hTz hby); clear hTz hSz
  (try go_wp2_with fail)
  refine hKk.out _ _ (fun w' => IsNat w' (.slice ay ny cy) u ∧ IsNat w' (.slice ax nx cx) v ∧ Below w.heap.size w w') (by assumption) ((stable_nat _ _).and ((stable_nat _ _).and (stable_below _))) (⟨hNy, unhide HT⟩) ?_
  clear hKk Kk
  (try simp only [Act.put, List.setIfInBounds_toArray, List.set_cons_zero, List.set_cons_succ])
  clear HT hNy
  refine wu_fin (by kernel_rfl) (fun w11 b1 b2 hb hSz hTz k1 k2 => ?_)
  (try simp only [Act.put, List.setIfInBounds_toArray, List.set_cons_zero, List.set_cons_succ])
  unfold ptr
  have c1 := k1.cell; have f1 := k1.thawed; have c2 := k2.cell; have f2 := k2.thawed
  have z1 := k1.base; have z2 := k2.base
  have hc2 := one_store (Ne.symm hb) (.slice ax nx cx) c2
  have hS1 := four_store (b := b1) (by omega) (by omega) (.slice ax nx cx) hSz
  have hS2 := four_store (b := b2) (by omega) (by omega) (.slice ay ny cy) hS1
  refine anyH_at #[true, true, true, true, true, true, false, false] (by kernel_rfl) ?_
  refine wpAnyH_ready (rs := [6]) (by kernel_rfl) (by simp) ?_
  refine AllReadyH.cons (o := { dst := none, op := _, type := _, pos := _, after := _, guard := _ }) rfl (fun Kk hKk => ?_) AllReadyH.nil
  go_simp
  refine hKk.out _ _ (hS1) (fun hHeld => ?_)
  clear hKk Kk
  refine anyH_at #[true, true, true, true, true, true, true, false] (by kernel_rfl) ?_
  refine wpAnyH_ready (rs := [7]) (by kernel_rfl) (by simp) ?_
  refine AllReadyH.cons (o := { dst := none, op := _, type := _, pos := _, after := _, guard := _ }) rfl (fun Kk hKk => ?_) AllReadyH.nil
  go_simp
  refine hKk.out _ _ (hS2) (fun hHeld => ?_)
  clear hKk Kk
  refine wpAnyH_done (by kernel_rfl) ?_ _
  have HF := hide hS2
  have Hx := hide (store_two hTz.2.1 c1 c2 hb (.slice ax nx cx) (.slice ay ny cy)); have Hy := hide (store_two hTz.1 c1 c2 hb (.slice ax nx cx) (.slice ay ny cy))
  have HB := hide ((hTz.2.2.setCell (p := ⟨b1, 0, none⟩) (by simp; omega) (.slice ax nx cx)).setCell (p := ⟨b2, 0, none⟩) (by simp; omega) (.slice ay ny cy))
  have q1 := one_store hb (.slice ay ny cy) (World.cell?_setCell_same _ _ (.slice ax nx cx) c1)
  have q2 := World.cell?_setCell_same _ _ (.slice ay ny cy) hc2
  have y1 : b1 < ((w11.setCell ⟨b1, 0, none⟩ (.slice ax nx cx)).setCell ⟨b2, 0, none⟩ (.slice ay ny cy)).heap.size := by simpa using k1.size
  have y2 : b2 < ((w11.setCell ⟨b1, 0, none⟩ (.slice ax nx cx)).setCell ⟨b2, 0, none⟩ (.slice ay ny cy)).heap.size := by simpa using k2.size
  clear hTz c1 c2 f1 f2 k1 k2 hc2 hS1 hS2 hSz hbx hby hHeld
  generalize (w11.setCell ⟨b1, 0, none⟩ (.slice ax nx cx)).setCell ⟨b2, 0, none⟩ (.slice ay ny cy) = w12 at *
  go_wp2_with fail
  have HQ := hide (And.intro q1 q2)
  refine wp_region_held_drew (S := fun w' => w'.cell? ⟨b1, 0, none⟩ = some (.slice ax nx cx) ∧ w'.cell? ⟨b2, 0, none⟩ = some (.slice ay ny cy)) (by kernel_rfl) (unhide HQ) (fun hHeld => ?_)
  refine wo_start (N := w12.heap.size) (i1 := 6) (d1 := 7) (v1 := .slice none 0 0) (t1 := 28) (f := 1) (n := 6)
    (T := fun w' => IsNat w' (.slice ax nx cx) v ∧ IsNat w' (.slice ay ny cy) u ∧ Below w.heap.size w w' ∧ w'.cell? ⟨w.heap.size, 0, none⟩ = some (.int .u64 (hi v)) ∧ w'.cell? ⟨w.heap.size, 1, none⟩ = some (.int .u64 (lo v)) ∧ w'.cell? ⟨w.heap.size + 1, 0, none⟩ = some (.int .u64 (hi u)) ∧ w'.cell? ⟨w.heap.size + 1, 1, none⟩ = some (.int .u64 (lo u)))
    (by kernel_rfl) (by kernel_rfl) (fun _ _ _ _ _ h => h) ((stable_cell _ _).and (stable_cell _ _)) ?_ ((stable_nat _ _).and ((stable_nat _ _).and ((stable_below _).and ((stable_cell _ _).and ((stable_cell _ _).and ((stable_cell _ _).and (stable_cell _ _))))))) hHeld ⟨(unhide Hx).below ((Below.refl _ _).drew), (unhide Hy).below ((Below.refl _ _).drew), (unhide HB).drew, unhide HF⟩ (Nat.le_refl _) ?_
  · intro a w K h
    unfold wpOp
    go_simp
    exact Or.inl h
  clear HF Hx Hy HB HQ q1 q2 hHeld
  refine wo_take (i := 0) (oi := { dst := some 14, op := _, type := _, pos := _, after := _, guard := _ }) rfl (by kernel_rfl) (by kernel_rfl) (fun _ _ _ h => h) (Or.inl ⟨by rfl, fun w hSw => by (try dsimp only at hSw); go_simp; with_reducible rfl⟩) ?_
  (try simp only [Act.put, List.setIfInBounds_toArray, List.set_cons_zero, List.set_cons_succ])
  refine wo_take (i := 4) (oi := { dst := some 18, op := _, type := _, pos := _, after := _, guard := _ }) rfl (by kernel_rfl) (by kernel_rfl) (fun _ _ _ h => h) (Or.inl ⟨by rfl, fun w hSw => by (try dsimp only at hSw); go_simp; with_reducible rfl⟩) ?_
  (try simp only [Act.put, List.setIfInBounds_toArray, List.set_cons_zero, List.set_cons_succ])
  refine wo_call (c := 1) (o := { dst := some 15, op := _, type := _, pos := _, after := _, guard := _ }) rfl (by kernel_rfl) (by kernel_rfl) (fun z hSz hTz Kk hKk => ?_)
  go_simp
  refine (refOf_1 _).mono ?_
  rintro e w4 ⟨s4, rfl, hN4, hb4⟩
  obtain ⟨a4, n4, c4, rfl⟩ := hN4.slice
  have HT := hide (((stable_nat _ _).and ((stable_nat _ _).and ((stable_below _).and ((stable_cell _ _).and ((stable_cell _ _).and ((stable_cell _ _).and (stable_cell _ _))))))) _ _ hTz hb4); clear hTz hSz
  (try go_wp2_with fail)
  refine hKk.out _ _ (fun w' => IsNat w' (.slice a4 n4 c4) 1 ∧ IsNat w' (.slice ax nx cx) v ∧ IsNat w' (.slice ay ny cy) u ∧ Below w.heap.size w w' ∧ w'.cell? ⟨w.heap.size, 0, none⟩ = some (.int .u64 (hi v)) ∧ w'.cell? ⟨w.heap.size, 1, none⟩ = some (.int .u64 (lo v)) ∧ w'.cell? ⟨w.heap.size + 1, 0, none⟩ = some (.int .u64 (hi u)) ∧ w'.cell? ⟨w.heap.size + 1, 1, none⟩ = some (.int .u64 (lo u))) (by assumption) ((stable_nat _ _).and ((stable_nat _ _).and ((stable_nat _ _).and ((stable_below _).and ((stable_cell _ _).and ((stable_cell _ _).and ((stable_cell _ _).and (stable_cell _ _)))))))) (⟨hN4, unhide HT⟩) ?_
  clear hKk Kk
  (try simp only [Act.put, List.setIfInBounds_toArray, List.set_cons_zero, List.set_cons_succ])
  clear HT hN4
  refine wo_call (c := 2) (o := { dst := some 16, op := _, type := _, pos := _, after := _, guard := _ }) rfl (by kernel_rfl) (by kernel_rfl) (fun z hSz hTz Kk hKk => ?_)
  go_simp
  refine (unhide CSh a4 n4 c4 _ hTz.1).mono ?_
  rintro e w5 ⟨s5, rfl, hN5, hb5⟩
  obtain ⟨a5, n5, c5, rfl⟩ := hN5.slice
  have HT := hide (((stable_nat _ _).and ((stable_nat _ _).and ((stable_below _).and ((stable_cell _ _).and ((stable_cell _ _).and ((stable_cell _ _).and (stable_cell _ _))))))) _ _ hTz.2 hb5); clear hTz hSz
  (try go_wp2_with fail)
  refine hKk.out _ _ (fun w' => IsNat w' (.slice a5 n5 c5) M ∧ IsNat w' (.slice ax nx cx) v ∧ IsNat w' (.slice ay ny cy) u ∧ Below w.heap.size w w' ∧ w'.cell? ⟨w.heap.size, 0, none⟩ = some (.int .u64 (hi v)) ∧ w'.cell? ⟨w.heap.size, 1, none⟩ = some (.int .u64 (lo v)) ∧ w'.cell? ⟨w.heap.size + 1, 0, none⟩ = some (.int .u64 (hi u)) ∧ w'.cell? ⟨w.heap.size + 1, 1, none⟩ = some (.int .u64 (lo u))) (by assumption) ((stable_nat _ _).and ((stable_nat _ _).and ((stable_nat _ _).and ((stable_below _).and ((stable_cell _ _).and ((stable_cell _ _).and ((stable_cell _ _).and (stable_cell _ _)))))))) (⟨hN5, unhide HT⟩) ?_
  clear hKk Kk
  (try simp only [Act.put, List.setIfInBounds_toArray, List.set_cons_zero, List.set_cons_succ])
  clear HT hN5
  refine wo_call (c := 3) (o := { dst := some 17, op := _, type := _, pos := _, after := _, guard := _ }) rfl (by kernel_rfl) (by kernel_rfl) (fun z hSz hTz Kk hKk => ?_)
  go_simp
  refine (refAdd_any ax a5 nx cx n5 c5 v M _ hTz.2.1 hTz.1 (Nat.le_trans (hTz.2.1.short (unhide HV4)) (by omega)) (Nat.le_trans (hTz.1.short (unhide HM4)) (by omega))).mono ?_
  rintro e w6 ⟨s6, rfl, hN6, hb6⟩
  obtain ⟨a6, n6, c6, rfl⟩ := hN6.slice
  have HT := hide (((stable_nat _ _).and ((stable_nat _ _).and ((stable_below _).and ((stable_cell _ _).and ((stable_cell _ _).and ((stable_cell _ _).and (stable_cell _ _))))))) _ _ hTz.2 hb6); clear hTz hSz
  (try go_wp2_with fail)
  refine hKk.out _ _ (fun w' => IsNat w' (.slice a6 n6 c6) (v + M) ∧ IsNat w' (.slice ax nx cx) v ∧ IsNat w' (.slice ay ny cy) u ∧ Below w.heap.size w w' ∧ w'.cell? ⟨w.heap.size, 0, none⟩ = some (.int .u64 (hi v)) ∧ w'.cell? ⟨w.heap.size, 1, none⟩ = some (.int .u64 (lo v)) ∧ w'.cell? ⟨w.heap.size + 1, 0, none⟩ = some (.int .u64 (hi u)) ∧ w'.cell? ⟨w.heap.size + 1, 1, none⟩ = some (.int .u64 (lo u))) (by assumption) ((stable_nat _ _).and ((stable_nat _ _).and ((stable_nat _ _).and ((stable_below _).and ((stable_cell _ _).and ((stable_cell _ _).and ((stable_cell _ _).and (stable_cell _ _)))))))) (⟨hN6, unhide HT⟩) ?_
  clear hKk Kk
  (try simp only [Act.put, List.setIfInBounds_toArray, List.set_cons_zero, List.set_cons_succ])
  clear HT hN6
  refine wo_call (c := 5) (o := { dst := some 19, op := _, type := _, pos := _, after := _, guard := _ }) rfl (by kernel_rfl) (by kernel_rfl) (fun z hSz hTz Kk hKk => ?_)
  go_simp
  refine (refSub_any a6 ay n6 c6 ny cy (v + M) u _ hTz.1 hTz.2.2.1 (Nat.le_trans (hTz.1.short (unhide HvM)) (by omega)) (unhide HuM)).mono ?_
  rintro e w7 ⟨s7, rfl, hN7, hb7⟩
  rw [unhide HDv] at hN7
  obtain ⟨a7, n7, c7, rfl⟩ := hN7.slice
  have HT := hide (((stable_nat _ _).and ((stable_nat _ _).and ((stable_below _).and ((stable_cell _ _).and ((stable_cell _ _).and ((stable_cell _ _).and (stable_cell _ _))))))) _ _ hTz.2 hb7); clear hTz hSz
  (try go_wp2_with fail)
  refine hKk.out _ _ (fun w' => IsNat w' (.slice a7 n7 c7) Dv ∧ IsNat w' (.slice ax nx cx) v ∧ IsNat w' (.slice ay ny cy) u ∧ Below w.heap.size w w' ∧ w'.cell? ⟨w.heap.size, 0, none⟩ = some (.int .u64 (hi v)) ∧ w'.cell? ⟨w.heap.size, 1, none⟩ = some (.int .u64 (lo v)) ∧ w'.cell? ⟨w.heap.size + 1, 0, none⟩ = some (.int .u64 (hi u)) ∧ w'.cell? ⟨w.heap.size + 1, 1, none⟩ = some (.int .u64 (lo u))) (by assumption) ((stable_nat _ _).and ((stable_nat _ _).and ((stable_nat _ _).and ((stable_below _).and ((stable_cell _ _).and ((stable_cell _ _).and ((stable_cell _ _).and (stable_cell _ _)))))))) (⟨hN7, unhide HT⟩) ?_
  clear hKk Kk
  (try simp only [Act.put, List.setIfInBounds_toArray, List.set_cons_zero, List.set_cons_succ])
  clear HT hN7
  refine wo_fin (by kernel_rfl) (fun w13 b3 hSz hTz k3 => ?_)
  (try simp only [Act.put, List.setIfInBounds_toArray, List.set_cons_zero, List.set_cons_succ])
  unfold ptr
  have c3 := k3.cell; have f3 := k3.thawed
  have z3 := k3.base
  have hS1 := And.intro (one_store (b := b3) (by omega) (.slice a7 n7 c7) hSz.1) (one_store (b := b3) (by omega) (.slice a7 n7 c7) hSz.2)
  refine anyH_at #[true, true, true, true, true, true, true, false] (by kernel_rfl) ?_
  refine wpAnyH_ready (rs := [7]) (by kernel_rfl) (by simp) ?_
  refine AllReadyH.cons (o := { dst := none, op := _, type := _, pos := _, after := _, guard := _ }) rfl (fun Kk hKk => ?_) AllReadyH.nil
  go_simp
  refine hKk.out _ _ (hS1) (fun hHeld => ?_)
  clear hKk Kk
  refine wpAnyH_done (by kernel_rfl) ?_ _
  have HF := hide (four_store (b := b3) (by omega) (by omega) (.slice a7 n7 c7) hTz.2.2.2.2)
  have Hd := hide (hTz.1.store c3 (.slice a7 n7 c7)); have Hx := hide (hTz.2.1.store c3 (.slice a7 n7 c7)); have Hy := hide (hTz.2.2.1.store c3 (.slice a7 n7 c7))
  have HB := hide (hTz.2.2.2.1.setCell (p := ⟨b3, 0, none⟩) (by simp; omega) (.slice a7 n7 c7))
  have HQ := hide (And.intro hS1.1 (And.intro hS1.2 (World.cell?_setCell_same _ _ (.slice a7 n7 c7) c3)))
  clear hTz c3 f3 k3 hS1 hSz hHeld hb4 hb5 hb6 hb7
  generalize w13.setCell ⟨b3, 0, none⟩ (.slice a7 n7 c7) = w14 at *
  have HS0 := hide (show w14.drew.cell? ⟨w.heap.size, 0, none⟩ = some (.int .u64 (hi v)) ∧ w14.drew.cell? ⟨w.heap.size, 1, none⟩ = some (.int .u64 (lo v)) ∧ w14.drew.cell? ⟨w.heap.size + 1, 0, none⟩ = some (.int .u64 (hi u)) ∧ w14.drew.cell? ⟨w.heap.size + 1, 1, none⟩ = some (.int .u64 (lo u)) ∧ w14.drew.cell? ⟨b1, 0, none⟩ = some (.slice ax nx cx) ∧ w14.drew.cell? ⟨b2, 0, none⟩ = some (.slice ay ny cy) ∧ w14.drew.cell? ⟨b3, 0, none⟩ = some (.slice a7 n7 c7) from
    ⟨(unhide HF).1, (unhide HF).2.1, (unhide HF).2.2.1, (unhide HF).2.2.2, (unhide HQ).1, (unhide HQ).2.1, (unhide HQ).2.2⟩)
  have Hx := hide ((unhide Hx).below (w' := w14.drew) ((Below.refl _ _).drew)); have Hy := hide ((unhide Hy).below (w' := w14.drew) ((Below.refl _ _).drew)); have Hd := hide ((unhide Hd).below (w' := w14.drew) ((Below.refl _ _).drew))
  have HB := hide ((unhide HB).drew)
  have HXs := hide (Nat.le_trans ((unhide Hx).short (unhide HV4)) (show 4 ≤ 1000 by omega)); have HYs := hide (Nat.le_trans ((unhide Hy).short (unhide HU4)) (show 4 ≤ 1000 by omega))
  clear HF HQ CNv CNu CSh HuM HM4 HvM HV4 HU4 HDv
  go_wp2_with fail
  refine wp_region_held_drew (S := fun w' => w'.cell? ⟨w.heap.size, 0, none⟩ = some (.int .u64 (hi v)) ∧ w'.cell? ⟨w.heap.size, 1, none⟩ = some (.int .u64 (lo v)) ∧ w'.cell? ⟨w.heap.size + 1, 0, none⟩ = some (.int .u64 (hi u)) ∧ w'.cell? ⟨w.heap.size + 1, 1, none⟩ = some (.int .u64 (lo u)) ∧ w'.cell? ⟨b1, 0, none⟩ = some (.slice ax nx cx) ∧ w'.cell? ⟨b2, 0, none⟩ = some (.slice ay ny cy) ∧ w'.cell? ⟨b3, 0, none⟩ = some (.slice a7 n7 c7)) (by kernel_rfl) ?_ (fun hHeld => ?_)
  · (try dsimp only)
    exact unhide HS0
  refine anyH_at #[false, false, false, false, false, false, false, false, false, false, false, false, false, false, false, false, false, false, false, false, false, false, false, false, false, false, false, false, false, false, false, false, false, false, false, false, false, false, false, false, false, false, false, false, false, false, false, false, false, false] (by kernel_rfl) ?_
  refine wpAnyH_take (i := 0) (oi := { dst := some 20, op := _, type := _, pos := _, after := _, guard := _ }) (v := ?vv0) rfl (by kernel_rfl) (by kernel_rfl) (by kernel_rfl) (fun _ _ _ h => h) (Or.inl ⟨by rfl, ?hy0⟩) (by assumption) ?rest0
  case hy0 => ((intro w hSw; (try dsimp only at hSw); go_simp) <;> with_reducible rfl)
  case rest0 =>
    (try simp only [Act.put, List.setIfInBounds_toArray, List.set_cons_zero, List.set_cons_succ])
    refine anyH_at #[true, false, false, false, false, false, false, false, false, false, false, false, false, false, false, false, false, false, false, false, false, false, false, false, false, false, false, false, false, false, false, false, false, false, false, false, false, false, false, false, false, false, false, false, false, false, false, false, false, false] (by kernel_rfl) ?_
    refine wpAnyH_take (i := 1) (oi := { dst := some 21, op := _, type := _, pos := _, after := _, guard := _ }) (v := ?vv1) rfl (by kernel_rfl) (by kernel_rfl) (by kernel_rfl) (fun _ _ _ h => h) (Or.inl ⟨by rfl, ?hy1⟩) (by assumption) ?rest1
    case hy1 => ((intro w hSw; (try dsimp only at hSw); go_simp) <;> with_reducible rfl)
    case rest1 =>
      (try simp only [Act.put, List.setIfInBounds_toArray, List.set_cons_zero, List.set_cons_succ])
      refine anyH_at #[true, true, false, false, false, false, false, false, false, false, false, false, false, false, false, false, false, false, false, false, false, false, false, false, false, false, false, false, false, false, false, false, false, false, false, false, false, false, false, false, false, false, false, false, false, false, false, false, false, false] (by kernel_rfl) ?_
      refine wpAnyH_take (i := 3) (oi := { dst := some 23, op := _, type := _, pos := _, after := _, guard := _ }) (v := ?vv3) rfl (by kernel_rfl) (by kernel_rfl) (by kernel_rfl) (fun _ _ _ h => h) (Or.inl ⟨by rfl, ?hy3⟩) (by assumption) ?rest3
      case hy3 => ((intro w hSw; (try dsimp only at hSw); go_simp) <;> with_reducible rfl)
      case rest3 =>
        (try simp only [Act.put, List.setIfInBounds_toArray, List.set_cons_zero, List.set_cons_succ])
        refine anyH_at #[true, true, false, true, false, false, false, false, false, false, false, false, false, false, false, false, false, false, false, false, false, false, false, false, false, false, false, false, false, false, false, false, false, false, false, false, false, false, false, false, false, false, false, false, false, false, false, false, false, false] (by kernel_rfl) ?_
        refine wpAnyH_take (i := 4) (oi := { dst := some 24, op := _, type := _, pos := _, after := _, guard := _ }) (v := ?vv4) rfl (by kernel_rfl) (by kernel_rfl) (by kernel_rfl) (fun _ _ _ h => h) (Or.inl ⟨by rfl, ?hy4⟩) (by assumption) ?rest4
        case hy4 => ((intro w hSw; (try dsimp only at hSw); go_simp) <;> with_reducible rfl)
        case rest4 =>
          (try simp only [Act.put, List.setIfInBounds_toArray, List.set_cons_zero, List.set_cons_succ])
          refine anyH_at #[true, true, false, true, true, false, false, false, false, false, false, false, false, false, false, false, false, false, false, false, false, false, false, false, false, false, false, false, false, false, false, false, false, false, false, false, false, false, false, false, false, false, false, false, false, false, false, false, false, false] (by kernel_rfl) ?_
          refine wpAnyH_ready (rs := [2]) (by kernel_rfl) (by simp) ?_
          refine AllReadyH.cons (o := { dst := some 22, op := _, type := _, pos := _, after := _, guard := _ }) rfl (fun Kk hKk => ?_) AllReadyH.nil
          go_simp
          refine (unhide CA _).mono ?_
          rintro e g2 ⟨rfl, hbl⟩
          have HB := hide (bthen (unhide HB) hbl)
          have Hx := hide ((unhide Hx).below hbl); have Hy := hide ((unhide Hy).below hbl)
          have Hd := hide ((unhide Hd).below hbl)
          (try go_wp2_with fail)
          refine hKk.out _ _ ?_ (fun hHeld => ?_)
          · (try dsimp only)
            exact ((stable_cell _ _).and ((stable_cell _ _).and ((stable_cell _ _).and ((stable_cell _ _).and ((stable_cell _ _).and ((stable_cell _ _).and (stable_cell _ _))))))) _ _ hHeld hbl
          clear hKk Kk
          (try simp only [List.setIfInBounds_toArray, List.set_cons_zero, List.set_cons_succ])
          refine anyH_at #[true, true, true, true, true, false, false, false, false, false, false, false, false, false, false, false, false, false, false, false, false, false, false, false, false, false, false, false, false, false, false, false, false, false, false, false, false, false, false, false, false, false, false, false, false, false, false, false, false, false] (by kernel_rfl) ?_
          refine wpAnyH_ready (rs := [5]) (by kernel_rfl) (by simp) ?_
          refine AllReadyH.cons (o := { dst := some 25, op := _, type := _, pos := _, after := _, guard := _ }) rfl (fun Kk hKk => ?_) AllReadyH.nil
          go_simp
          refine (refAdd_any ax ay nx cx ny cy v u _ (unhide Hx) (unhide Hy) (unhide HXs) (unhide HYs)).mono ?_
          rintro e g5 ⟨s5, rfl, hN, hbl⟩
          obtain ⟨j5, m5, l5, rfl⟩ := hN.slice
          have G5 := hide hN
          clear hN
          have HB := hide (bthen (unhide HB) hbl)
          have Hx := hide ((unhide Hx).below hbl); have Hy := hide ((unhide Hy).below hbl)
          have Hd := hide ((unhide Hd).below hbl)
          (try go_wp2_with fail)
          refine hKk.out _ _ ?_ (fun hHeld => ?_)
          · (try dsimp only)
            exact ((stable_cell _ _).and ((stable_cell _ _).and ((stable_cell _ _).and ((stable_cell _ _).and ((stable_cell _ _).and ((stable_cell _ _).and (stable_cell _ _))))))) _ _ hHeld hbl
          clear hKk Kk
          (try simp only [List.setIfInBounds_toArray, List.set_cons_zero, List.set_cons_succ])
          refine anyH_at #[true, true, true, true, true, true, false, false, false, false, false, false, false, false, false, false, false, false, false, false, false, false, false, false, false, false, false, false, false, false, false, false, false, false, false, false, false, false, false, false, false, false, false, false, false, false, false, false, false, false] (by kernel_rfl) ?_
          refine wpAnyH_ready (rs := [6]) (by kernel_rfl) (by simp) ?_
          refine AllReadyH.cons (o := { dst := some 26, op := _, type := _, pos := _, after := _, guard := _ }) rfl (fun Kk hKk => ?_) AllReadyH.nil
          go_simp
          refine (unhide HMo j5 m5 l5 (v + u) _ (unhide G5)).mono ?_
          rintro e g6 ⟨s6, rfl, hN, hbl⟩
          rw [unhide HA] at hN
          obtain ⟨j6, m6, l6, rfl⟩ := hN.slice
          have G6 := hide hN
          clear hN
          have HB := hide (bthen (unhide HB) hbl)
          have Hx := hide ((unhide Hx).below hbl); have Hy := hide ((unhide Hy).below hbl)
          have Hd := hide ((unhide Hd).below hbl)
          (try go_wp2_with fail)
          refine hKk.out _ _ ?_ (fun hHeld => ?_)
          · (try dsimp only)
            exact ((stable_cell _ _).and ((stable_cell _ _).and ((stable_cell _ _).and ((stable_cell _ _).and ((stable_cell _ _).and ((stable_cell _ _).and (stable_cell _ _))))))) _ _ hHeld hbl
          clear hKk Kk
          (try simp only [List.setIfInBounds_toArray, List.set_cons_zero, List.set_cons_succ])
          refine anyH_at #[true, true, true, true, true, true, true, false, false, false, false, false, false, false, false, false, false, false, false, false, false, false, false, false, false, false, false, false, false, false, false, false, false, false, false, false, false, false, false, false, false, false, false, false, false, false, false, false, false, false] (by kernel_rfl) ?_
          refine wpAnyH_ready (rs := [7]) (by kernel_rfl) (by simp) ?_
          refine AllReadyH.cons (o := { dst := some 27, op := _, type := _, pos := _, after := _, guard := _ }) rfl (fun Kk hKk => ?_) AllReadyH.nil
          go_simp
          refine (is_any j6 m6 l6 A _ (unhide G6) (unhide HAw)).mono ?_
          rintro e g7 ⟨rfl, hbl⟩
          have HB := hide (bthen (unhide HB) hbl)
          have Hx := hide ((unhide Hx).below hbl); have Hy := hide ((unhide Hy).below hbl)
          have Hd := hide ((unhide Hd).below hbl)
          (try go_wp2_with fail)
          refine hKk.out _ _ ?_ (fun hHeld => ?_)
          · (try dsimp only)
            exact ((stable_cell _ _).and ((stable_cell _ _).and ((stable_cell _ _).and ((stable_cell _ _).and ((stable_cell _ _).and ((stable_cell _ _).and (stable_cell _ _))))))) _ _ hHeld hbl
          clear hKk Kk
          (try simp only [List.setIfInBounds_toArray, List.set_cons_zero, List.set_cons_succ])
          refine anyH_at #[true, true, true, true, true, true, true, true, false, false, false, false, false, false, false, false, false, false, false, false, false, false, false, false, false, false, false, false, false, false, false, false, false, false, false, false, false, false, false, false, false, false, false, false, false, false, false, false, false, false] (by kernel_rfl) ?_
          refine wpAnyH_take (i := 8) (oi := { dst := some 28, op := _, type := _, pos := _, after := _, guard := _ }) (v := ?vv8) rfl (by kernel_rfl) (by kernel_rfl) (by kernel_rfl) (fun _ _ _ h => h) (Or.inl ⟨by rfl, ?hy8⟩) (by assumption) ?rest8
          case hy8 => ((intro w hSw; (try dsimp only at hSw); go_simp) <;> with_reducible rfl)
          case rest8 =>
            (try simp only [Act.put, List.setIfInBounds_toArray, List.set_cons_zero, List.set_cons_succ])
            refine anyH_at #[true, true, true, true, true, true, true, true, true, false, false, false, false, false, false, false, false, false, false, false, false, false, false, false, false, false, false, false, false, false, false, false, false, false, false, false, false, false, false, false, false, false, false, false, false, false, false, false, false, false] (by kernel_rfl) ?_
            refine wpAnyH_take (i := 9) (oi := { dst := some 29, op := _, type := _, pos := _, after := _, guard := _ }) (v := ?vv9) rfl (by kernel_rfl) (by kernel_rfl) (by kernel_rfl) (fun _ _ _ h => h) (Or.inl ⟨by rfl, ?hy9⟩) (by assumption) ?rest9
            case hy9 => ((intro w hSw; (try dsimp only at hSw); go_simp) <;> with_reducible rfl)
            case rest9 =>
              (try simp only [Act.put, List.setIfInBounds_toArray, List.set_cons_zero, List.set_cons_succ])
              refine anyH_at #[true, true, true, true, true, true, true, true, true, true, false, false, false, false, false, false, false, false, false, false, false, false, false, false, false, false, false, false, false, false, false, false, false, false, false, false, false, false, false, false, false, false, false, false, false, false, false, false, false, false] (by kernel_rfl) ?_
              refine wpAnyH_take (i := 10) (oi := { dst := some 30, op := _, type := _, pos := _, after := _, guard := _ }) (v := ?vv10) rfl (by kernel_rfl) (by kernel_rfl) (by kernel_rfl) (fun _ _ _ h => h) (Or.inl ⟨by rfl, ?hy10⟩) (by assumption) ?rest10
              case hy10 => ((intro w hSw; (try dsimp only at hSw); go_simp) <;> with_reducible rfl)
              case rest10 =>
                (try simp only [Act.put, List.setIfInBounds_toArray, List.set_cons_zero, List.set_cons_succ])
                refine anyH_at #[true, true, true, true, true, true, true, true, true, true, true, false, false, false, false, false, false, false, false, false, false, false, false, false, false, false, false, false, false, false, false, false, false, false, false, false, false, false, false, false, false, false, false, false, false, false, false, false, false, false] (by kernel_rfl) ?_
                refine wpAnyH_take (i := 12) (oi := { dst := some 32, op := _, type := _, pos := _, after := _, guard := _ }) (v := ?vv12) rfl (by kernel_rfl) (by kernel_rfl) (by kernel_rfl) (fun _ _ _ h => h) (Or.inl ⟨by rfl, ?hy12⟩) (by assumption) ?rest12
                case hy12 => ((intro w hSw; (try dsimp only at hSw); go_simp) <;> with_reducible rfl)
                case rest12 =>
                  (try simp only [Act.put, List.setIfInBounds_toArray, List.set_cons_zero, List.set_cons_succ])
                  refine anyH_at #[true, true, true, true, true, true, true, true, true, true, true, false, true, false, false, false, false, false, false, false, false, false, false, false, false, false, false, false, false, false, false, false, false, false, false, false, false, false, false, false, false, false, false, false, false, false, false, false, false, false] (by kernel_rfl) ?_
                  refine wpAnyH_ready (rs := [11]) (by kernel_rfl) (by simp) ?_
                  refine AllReadyH.cons (o := { dst := some 31, op := _, type := _, pos := _, after := _, guard := _ }) rfl (fun Kk hKk => ?_) AllReadyH.nil
                  go_simp
                  refine (unhide CS _).mono ?_
                  rintro e g11 ⟨rfl, hbl⟩
                  have HB := hide (bthen (unhide HB) hbl)
                  have Hx := hide ((unhide Hx).below hbl); have Hy := hide ((unhide Hy).below hbl)
                  have Hd := hide ((unhide Hd).below hbl)
                  (try go_wp2_with fail)
                  refine hKk.out _ _ ?_ (fun hHeld => ?_)
                  · (try dsimp only)
                    exact ((stable_cell _ _).and ((stable_cell _ _).and ((stable_cell _ _).and ((stable_cell _ _).and ((stable_cell _ _).and ((stable_cell _ _).and (stable_cell _ _))))))) _ _ hHeld hbl
                  clear hKk Kk
                  (try simp only [List.setIfInBounds_toArray, List.set_cons_zero, List.set_cons_succ])
                  refine anyH_at #[true, true, true, true, true, true, true, true, true, true, true, true, true, false, false, false, false, false, false, false, false, false, false, false, false, false, false, false, false, false, false, false, false, false, false, false, false, false, false, false, false, false, false, false, false, false, false, false, false, false] (by kernel_rfl) ?_
                  refine wpAnyH_ready (rs := [13]) (by kernel_rfl) (by simp) ?_
                  refine AllReadyH.cons (o := { dst := some 33, op := _, type := _, pos := _, after := _, guard := _ }) rfl (fun Kk hKk => ?_) AllReadyH.nil
                  go_simp
                  refine (unhide HMo a7 n7 c7 Dv _ (unhide Hd)).mono ?_
                  rintro e g13 ⟨s13, rfl, hN, hbl⟩
                  rw [unhide HS] at hN
                  obtain ⟨j13, m13, l13, rfl⟩ := hN.slice
                  have G13 := hide hN
                  clear hN
                  have HB := hide (bthen (unhide HB) hbl)
                  have Hx := hide ((unhide Hx).below hbl); have Hy := hide ((unhide Hy).below hbl)
                  (try go_wp2_with fail)
                  refine hKk.out _ _ ?_ (fun hHeld => ?_)
                  · (try dsimp only)
                    exact ((stable_cell _ _).and ((stable_cell _ _).and ((stable_cell _ _).and ((stable_cell _ _).and ((stable_cell _ _).and ((stable_cell _ _).and (stable_cell _ _))))))) _ _ hHeld hbl
                  clear hKk Kk
                  (try simp only [List.setIfInBounds_toArray, List.set_cons_zero, List.set_cons_succ])
                  refine anyH_at #[true, true, true, true, true, true, true, true, true, true, true, true, true, true, false, false, false, false, false, false, false, false, false, false, false, false, false, false, false, false, false, false, false, false, false, false, false, false, false, false, false, false, false, false, false, false, false, false, false, false] (by kernel_rfl) ?_
                  refine wpAnyH_ready (rs := [14]) (by kernel_rfl) (by simp) ?_
                  refine AllReadyH.cons (o := { dst := some 34, op := _, type := _, pos := _, after := _, guard := _ }) rfl (fun Kk hKk => ?_) AllReadyH.nil
                  go_simp
                  refine (is_any j13 m13 l13 B _ (unhide G13) (unhide HSw)).mono ?_
                  rintro e g14 ⟨rfl, hbl⟩
                  have HB := hide (bthen (unhide HB) hbl)
                  have Hx := hide ((unhide Hx).below hbl); have Hy := hide ((unhide Hy).below hbl)
                  (try go_wp2_with fail)
                  refine hKk.out _ _ ?_ (fun hHeld => ?_)
                  · (try dsimp only)
                    exact ((stable_cell _ _).and ((stable_cell _ _).and ((stable_cell _ _).and ((stable_cell _ _).and ((stable_cell _ _).and ((stable_cell _ _).and (stable_cell _ _))))))) _ _ hHeld hbl
                  clear hKk Kk
                  (try simp only [List.setIfInBounds_toArray, List.set_cons_zero, List.set_cons_succ])
                  refine anyH_at #[true, true, true, true, true, true, true, true, true, true, true, true, true, true, true, false, false, false, false, false, false, false, false, false, false, false, false, false, false, false, false, false, false, false, false, false, false, false, false, false, false, false, false, false, false, false, false, false, false, false] (by kernel_rfl) ?_
                  refine wpAnyH_take (i := 15) (oi := { dst := some 35, op := _, type := _, pos := _, after := _, guard := _ }) (v := ?vv15) rfl (by kernel_rfl) (by kernel_rfl) (by kernel_rfl) (fun _ _ _ h => h) (Or.inl ⟨by rfl, ?hy15⟩) (by assumption) ?rest15
                  case hy15 => ((intro w hSw; (try dsimp only at hSw); go_simp) <;> with_reducible rfl)
                  case rest15 =>
                    (try simp only [Act.put, List.setIfInBounds_toArray, List.set_cons_zero, List.set_cons_succ])
                    refine anyH_at #[true, true, true, true, true, true, true, true, true, true, true, true, true, true, true, true, false, false, false, false, false, false, false, false, false, false, false, false, false, false, false, false, false, false, false, false, false, false, false, false, false, false, false, false, false, false, false, false, false, false] (by kernel_rfl) ?_
                    refine wpAnyH_take (i := 16) (oi := { dst := some 36, op := _, type := _, pos := _, after := _, guard := _ }) (v := ?vv16) rfl (by kernel_rfl) (by kernel_rfl) (by kernel_rfl) (fun _ _ _ h => h) (Or.inl ⟨by rfl, ?hy16⟩) (by assumption) ?rest16
                    case hy16 => ((intro w hSw; (try dsimp only at hSw); go_simp) <;> with_reducible rfl)
                    case rest16 =>
                      (try simp only [Act.put, List.setIfInBounds_toArray, List.set_cons_zero, List.set_cons_succ])
                      refine anyH_at #[true, true, true, true, true, true, true, true, true, true, true, true, true, true, true, true, true, false, false, false, false, false, false, false, false, false, false, false, false, false, false, false, false, false, false, false, false, false, false, false, false, false, false, false, false, false, false, false, false, false] (by kernel_rfl) ?_
                      refine wpAnyH_take (i := 17) (oi := { dst := some 37, op := _, type := _, pos := _, after := _, guard := _ }) (v := ?vv17) rfl (by kernel_rfl) (by kernel_rfl) (by kernel_rfl) (fun _ _ _ h => h) (Or.inl ⟨by rfl, ?hy17⟩) (by assumption) ?rest17
                      case hy17 => ((intro w hSw; (try dsimp only at hSw); go_simp) <;> with_reducible rfl)
                      case rest17 =>
                        (try simp only [Act.put, List.setIfInBounds_toArray, List.set_cons_zero, List.set_cons_succ])
                        refine anyH_at #[true, true, true, true, true, true, true, true, true, true, true, true, true, true, true, true, true, true, false, false, false, false, false, false, false, false, false, false, false, false, false, false, false, false, false, false, false, false, false, false, false, false, false, false, false, false, false, false, false, false] (by kernel_rfl) ?_
                        refine wpAnyH_take (i := 18) (oi := { dst := some 38, op := _, type := _, pos := _, after := _, guard := _ }) (v := ?vv18) rfl (by kernel_rfl) (by kernel_rfl) (by kernel_rfl) (fun _ _ _ h => h) (Or.inl ⟨by rfl, ?hy18⟩) (by assumption) ?rest18
                        case hy18 => ((intro w hSw; (try dsimp only at hSw); go_simp) <;> with_reducible rfl)
                        case rest18 =>
                          (try simp only [Act.put, List.setIfInBounds_toArray, List.set_cons_zero, List.set_cons_succ])
                          refine anyH_at #[true, true, true, true, true, true, true, true, true, true, true, true, true, true, true, true, true, true, true, false, false, false, false, false, false, false, false, false, false, false, false, false, false, false, false, false, false, false, false, false, false, false, false, false, false, false, false, false, false, false] (by kernel_rfl) ?_
                          refine wpAnyH_take (i := 19) (oi := { dst := some 39, op := _, type := _, pos := _, after := _, guard := _ }) (v := ?vv19) rfl (by kernel_rfl) (by kernel_rfl) (by kernel_rfl) (fun _ _ _ h => h) (Or.inl ⟨by rfl, ?hy19⟩) (by assumption) ?rest19
                          case hy19 => ((intro w hSw; (try dsimp only at hSw); go_simp) <;> with_reducible rfl)
                          case rest19 =>
                            (try simp only [Act.put, List.setIfInBounds_toArray, List.set_cons_zero, List.set_cons_succ])
                            refine anyH_at #[true, true, true, true, true, true, true, true, true, true, true, true, true, true, true, true, true, true, true, true, false, false, false, false, false, false, false, false, false, false, false, false, false, false, false, false, false, false, false, false, false, false, false, false, false, false, false, false, false, false] (by kernel_rfl) ?_
                            refine wpAnyH_take (i := 20) (oi := { dst := some 40, op := _, type := _, pos := _, after := _, guard := _ }) (v := ?vv20) rfl (by kernel_rfl) (by kernel_rfl) (by kernel_rfl) (fun _ _ _ h => h) (Or.inl ⟨by rfl, ?hy20⟩) (by assumption) ?rest20
                            case hy20 => ((intro w hSw; (try dsimp only at hSw); go_simp) <;> with_reducible rfl)
                            case rest20 =>
                              (try simp only [Act.put, List.setIfInBounds_toArray, List.set_cons_zero, List.set_cons_succ])
                              refine anyH_at #[true, true, true, true, true, true, true, true, true, true, true, true, true, true, true, true, true, true, true, true, true, false, false, false, false, false, false, false, false, false, false, false, false, false, false, false, false, false, false, false, false, false, false, false, false, false, false, false, false, false] (by kernel_rfl) ?_
                              refine wpAnyH_take (i := 22) (oi := { dst := some 42, op := _, type := _, pos := _, after := _, guard := _ }) (v := ?vv22) rfl (by kernel_rfl) (by kernel_rfl) (by kernel_rfl) (fun _ _ _ h => h) (Or.inl ⟨by rfl, ?hy22⟩) (by assumption) ?rest22
                              case hy22 => ((intro w hSw; (try dsimp only at hSw); go_simp) <;> with_reducible rfl)
                              case rest22 =>
                                (try simp only [Act.put, List.setIfInBounds_toArray, List.set_cons_zero, List.set_cons_succ])
                                refine anyH_at #[true, true, true, true, true, true, true, true, true, true, true, true, true, true, true, true, true, true, true, true, true, false, true, false, false, false, false, false, false, false, false, false, false, false, false, false, false, false, false, false, false, false, false, false, false, false, false, false, false, false] (by kernel_rfl) ?_
                                refine wpAnyH_take (i := 23) (oi := { dst := some 43, op := _, type := _, pos := _, after := _, guard := _ }) (v := ?vv23) rfl (by kernel_rfl) (by kernel_rfl) (by kernel_rfl) (fun _ _ _ h => h) (Or.inl ⟨by rfl, ?hy23⟩) (by assumption) ?rest23
                                case hy23 => ((intro w hSw; (try dsimp only at hSw); go_simp) <;> with_reducible rfl)
                                case rest23 =>
                                  (try simp only [Act.put, List.setIfInBounds_toArray, List.set_cons_zero, List.set_cons_succ])
                                  refine anyH_at #[true, true, true, true, true, true, true, true, true, true, true, true, true, true, true, true, true, true, true, true, true, false, true, true, false, false, false, false, false, false, false, false, false, false, false, false, false, false, false, false, false, false, false, false, false, false, false, false, false, false] (by kernel_rfl) ?_
                                  refine wpAnyH_take (i := 25) (oi := { dst := some 45, op := _, type := _, pos := _, after := _, guard := _ }) (v := ?vv25) rfl (by kernel_rfl) (by kernel_rfl) (by kernel_rfl) (fun _ _ _ h => h) (Or.inl ⟨by rfl, ?hy25⟩) (by assumption) ?rest25
                                  case hy25 => ((intro w hSw; (try dsimp only at hSw); go_simp) <;> with_reducible rfl)
                                  case rest25 =>
                                    (try simp only [Act.put, List.setIfInBounds_toArray, List.set_cons_zero, List.set_cons_succ])
                                    refine anyH_at #[true, true, true, true, true, true, true, true, true, true, true, true, true, true, true, true, true, true, true, true, true, false, true, true, false, true, false, false, false, false, false, false, false, false, false, false, false, false, false, false, false, false, false, false, false, false, false, false, false, false] (by kernel_rfl) ?_
                                    refine wpAnyH_take (i := 26) (oi := { dst := some 46, op := _, type := _, pos := _, after := _, guard := _ }) (v := ?vv26) rfl (by kernel_rfl) (by kernel_rfl) (by kernel_rfl) (fun _ _ _ h => h) (Or.inl ⟨by rfl, ?hy26⟩) (by assumption) ?rest26
                                    case hy26 => ((intro w hSw; (try dsimp only at hSw); go_simp) <;> with_reducible rfl)
                                    case rest26 =>
                                      (try simp only [Act.put, List.setIfInBounds_toArray, List.set_cons_zero, List.set_cons_succ])
                                      refine anyH_at #[true, true, true, true, true, true, true, true, true, true, true, true, true, true, true, true, true, true, true, true, true, false, true, true, false, true, true, false, false, false, false, false, false, false, false, false, false, false, false, false, false, false, false, false, false, false, false, false, false, false] (by kernel_rfl) ?_
                                      refine wpAnyH_ready (rs := [21]) (by kernel_rfl) (by simp) ?_
                                      refine AllReadyH.cons (o := { dst := some 41, op := _, type := _, pos := _, after := _, guard := _ }) rfl (fun Kk hKk => ?_) AllReadyH.nil
                                      go_simp
                                      refine (unhide CM _).mono ?_
                                      rintro e g21 ⟨rfl, hbl⟩
                                      have HB := hide (bthen (unhide HB) hbl)
                                      have Hx := hide ((unhide Hx).below hbl); have Hy := hide ((unhide Hy).below hbl)
                                      (try go_wp2_with fail)
                                      refine hKk.out _ _ ?_ (fun hHeld => ?_)
                                      · (try dsimp only)
                                        exact ((stable_cell _ _).and ((stable_cell _ _).and ((stable_cell _ _).and ((stable_cell _ _).and ((stable_cell _ _).and ((stable_cell _ _).and (stable_cell _ _))))))) _ _ hHeld hbl
                                      clear hKk Kk
                                      (try simp only [List.setIfInBounds_toArray, List.set_cons_zero, List.set_cons_succ])
                                      refine anyH_at #[true, true, true, true, true, true, true, true, true, true, true, true, true, true, true, true, true, true, true, true, true, true, true, true, false, true, true, false, false, false, false, false, false, false, false, false, false, false, false, false, false, false, false, false, false, false, false, false, false, false] (by kernel_rfl) ?_
                                      refine wpAnyH_ready (rs := [24]) (by kernel_rfl) (by simp) ?_
                                      refine AllReadyH.cons (o := { dst := some 44, op := _, type := _, pos := _, after := _, guard := _ }) rfl (fun Kk hKk => ?_) AllReadyH.nil
                                      go_simp
                                      refine (unhide CRp _).mono ?_
                                      rintro e g24 ⟨s24, rfl, hN, hbl⟩
                                      obtain ⟨j24, m24, l24, rfl⟩ := hN.slice
                                      have G24 := hide hN
                                      clear hN
                                      have HB := hide (bthen (unhide HB) hbl)
                                      have Hx := hide ((unhide Hx).below hbl); have Hy := hide ((unhide Hy).below hbl)
                                      (try go_wp2_with fail)
                                      refine hKk.out _ _ ?_ (fun hHeld => ?_)
                                      · (try dsimp only)
                                        exact ((stable_cell _ _).and ((stable_cell _ _).and ((stable_cell _ _).and ((stable_cell _ _).and ((stable_cell _ _).and ((stable_cell _ _).and (stable_cell _ _))))))) _ _ hHeld hbl
                                      clear hKk Kk
                                      (try simp only [List.setIfInBounds_toArray, List.set_cons_zero, List.set_cons_succ])
                                      refine anyH_at #[true, true, true, true, true, true, true, true, true, true, true, true, true, true, true, true, true, true, true, true, true, true, true, true, true, true, true, false, false, false, false, false, false, false, false, false, false, false, false, false, false, false, false, false, false, false, false, false, false, false] (by kernel_rfl) ?_
                                      refine wpAnyH_ready (rs := [27]) (by kernel_rfl) (by simp) ?_
                                      refine AllReadyH.cons (o := { dst := some 47, op := _, type := _, pos := _, after := _, guard := _ }) rfl (fun Kk hKk => ?_) AllReadyH.nil
                                      go_simp
                                      refine (unhide CRq _).mono ?_
                                      rintro e g27 ⟨s27, rfl, hN, hbl⟩
                                      obtain ⟨j27, m27, l27, rfl⟩ := hN.slice
                                      have G27 := hide hN
                                      clear hN
                                      have HB := hide (bthen (unhide HB) hbl)
                                      have Hx := hide ((unhide Hx).below hbl); have Hy := hide ((unhide Hy).below hbl)
                                      have G24 := hide ((unhide G24).below hbl)
                                      (try go_wp2_with fail)
                                      refine hKk.out _ _ ?_ (fun hHeld => ?_)
                                      · (try dsimp only)
                                        exact ((stable_cell _ _).and ((stable_cell _ _).and ((stable_cell _ _).and ((stable_cell _ _).and ((stable_cell _ _).and ((stable_cell _ _).and (stable_cell _ _))))))) _ _ hHeld hbl
                                      clear hKk Kk
                                      (try simp only [List.setIfInBounds_toArray, List.set_cons_zero, List.set_cons_succ])
                                      refine anyH_at #[true, true, true, true, true, true, true, true, true, true, true, true, true, true, true, true, true, true, true, true, true, true, true, true, true, true, true, true, false, false, false, false, false, false, false, false, false, false, false, false, false, false, false, false, false, false, false, false, false, false] (by kernel_rfl) ?_
                                      refine wpAnyH_ready (rs := [28]) (by kernel_rfl) (by simp) ?_
                                      refine AllReadyH.cons (o := { dst := some 48, op := _, type := _, pos := _, after := _, guard := _ }) rfl (fun Kk hKk => ?_) AllReadyH.nil
                                      go_simp
                                      refine (refMul_any j24 j27 m24 l24 m27 l27 p q _ (unhide G24) (unhide G27) (Nat.le_trans ((unhide G24).short (unhide Hp)) (by omega)) (Nat.le_trans ((unhide G27).short (unhide Hq)) (by omega))).mono ?_
                                      rintro e g28 ⟨s28, rfl, hN, hbl⟩
                                      rw [unhide HP] at hN
                                      obtain ⟨j28, m28, l28, rfl⟩ := hN.slice
                                      have G28 := hide hN
                                      clear hN
                                      have HB := hide (bthen (unhide HB) hbl)
                                      have Hx := hide ((unhide Hx).below hbl); have Hy := hide ((unhide Hy).below hbl)
                                      (try go_wp2_with fail)
                                      refine hKk.out _ _ ?_ (fun hHeld => ?_)
                                      · (try dsimp only)
                                        exact ((stable_cell _ _).and ((stable_cell _ _).and ((stable_cell _ _).and ((stable_cell _ _).and ((stable_cell _ _).and ((stable_cell _ _).and (stable_cell _ _))))))) _ _ hHeld hbl
                                      clear hKk Kk
                                      (try simp only [List.setIfInBounds_toArray, List.set_cons_zero, List.set_cons_succ])
                                      refine anyH_at #[true, true, true, true, true, true, true, true, true, true, true, true, true, true, true, true, true, true, true, true, true, true, true, true, true, true, true, true, true, false, false, false, false, false, false, false, false, false, false, false, false, false, false, false, false, false, false, false, false, false] (by kernel_rfl) ?_
                                      refine wpAnyH_ready (rs := [29]) (by kernel_rfl) (by simp) ?_
                                      refine AllReadyH.cons (o := { dst := some 49, op := _, type := _, pos := _, after := _, guard := _ }) rfl (fun Kk hKk => ?_) AllReadyH.nil
                                      go_simp
                                      refine (is_any j28 m28 l28 P _ (unhide G28) (unhide HPw)).mono ?_
                                      rintro e g29 ⟨rfl, hbl⟩
                                      have HB := hide (bthen (unhide HB) hbl)
                                      have Hx := hide ((unhide Hx).below hbl); have Hy := hide ((unhide Hy).below hbl)
                                      (try go_wp2_with fail)
                                      refine hKk.out _ _ ?_ (fun hHeld => ?_)
                                      · (try dsimp only)
                                        exact ((stable_cell _ _).and ((stable_cell _ _).and ((stable_cell _ _).and ((stable_cell _ _).and ((stable_cell _ _).and ((stable_cell _ _).and (stable_cell _ _))))))) _ _ hHeld hbl
                                      clear hKk Kk
                                      (try simp only [List.setIfInBounds_toArray, List.set_cons_zero, List.set_cons_succ])
                                      refine anyH_at #[true, true, true, true, true, true, true, true, true, true, true, true, true, true, true, true, true, true, true, true, true, true, true, true, true, true, true, true, true, true, false, false, false, false, false, false, false, false, false, false, false, false, false, false, false, false, false, false, false, false] (by kernel_rfl) ?_
                                      refine wpAnyH_take (i := 30) (oi := { dst := some 50, op := _, type := _, pos := _, after := _, guard := _ }) (v := ?vv30) rfl (by kernel_rfl) (by kernel_rfl) (by kernel_rfl) (fun _ _ _ h => h) (Or.inl ⟨by rfl, ?hy30⟩) (by assumption) ?rest30
                                      case hy30 => ((intro w hSw; (try dsimp only at hSw); go_simp) <;> with_reducible rfl)
                                      case rest30 =>
                                        (try simp only [Act.put, List.setIfInBounds_toArray, List.set_cons_zero, List.set_cons_succ])
                                        refine anyH_at #[true, true, true, true, true, true, true, true, true, true, true, true, true, true, true, true, true, true, true, true, true, true, true, true, true, true, true, true, true, true, true, false, false, false, false, false, false, false, false, false, false, false, false, false, false, false, false, false, false, false] (by kernel_rfl) ?_
                                        refine wpAnyH_take (i := 31) (oi := { dst := some 51, op := _, type := _, pos := _, after := _, guard := _ }) (v := ?vv31) rfl (by kernel_rfl) (by kernel_rfl) (by kernel_rfl) (fun _ _ _ h => h) (Or.inl ⟨by rfl, ?hy31⟩) (by assumption) ?rest31
                                        case hy31 => ((intro w hSw; (try dsimp only at hSw); go_simp) <;> with_reducible rfl)
                                        case rest31 =>
                                          (try simp only [Act.put, List.setIfInBounds_toArray, List.set_cons_zero, List.set_cons_succ])
                                          refine anyH_at #[true, true, true, true, true, true, true, true, true, true, true, true, true, true, true, true, true, true, true, true, true, true, true, true, true, true, true, true, true, true, true, true, false, false, false, false, false, false, false, false, false, false, false, false, false, false, false, false, false, false] (by kernel_rfl) ?_
                                          refine wpAnyH_take (i := 32) (oi := { dst := some 52, op := _, type := _, pos := _, after := _, guard := _ }) (v := ?vv32) rfl (by kernel_rfl) (by kernel_rfl) (by kernel_rfl) (fun _ _ _ h => h) (Or.inl ⟨by rfl, ?hy32⟩) (by assumption) ?rest32
                                          case hy32 => ((intro w hSw; (try dsimp only at hSw); go_simp) <;> with_reducible rfl)
                                          case rest32 =>
                                            (try simp only [Act.put, List.setIfInBounds_toArray, List.set_cons_zero, List.set_cons_succ])
                                            refine anyH_at #[true, true, true, true, true, true, true, true, true, true, true, true, true, true, true, true, true, true, true, true, true, true, true, true, true, true, true, true, true, true, true, true, true, false, false, false, false, false, false, false, false, false, false, false, false, false, false, false, false, false] (by kernel_rfl) ?_
                                            refine wpAnyH_take (i := 33) (oi := { dst := some 53, op := _, type := _, pos := _, after := _, guard := _ }) (v := ?vv33) rfl (by kernel_rfl) (by kernel_rfl) (by kernel_rfl) (fun _ _ _ h => h) (Or.inl ⟨by rfl, ?hy33⟩) (by assumption) ?rest33
                                            case hy33 => ((intro w hSw; (try dsimp only at hSw); go_simp) <;> with_reducible rfl)
                                            case rest33 =>
                                              (try simp only [Act.put, List.setIfInBounds_toArray, List.set_cons_zero, List.set_cons_succ])
                                              refine anyH_at #[true, true, true, true, true, true, true, true, true, true, true, true, true, true, true, true, true, true, true, true, true, true, true, true, true, true, true, true, true, true, true, true, true, true, false, false, false, false, false, false, false, false, false, false, false, false, false, false, false, false] (by kernel_rfl) ?_
                                              refine wpAnyH_take (i := 35) (oi := { dst := some 55, op := _, type := _, pos := _, after := _, guard := _ }) (v := ?vv35) rfl (by kernel_rfl) (by kernel_rfl) (by kernel_rfl) (fun _ _ _ h => h) (Or.inl ⟨by rfl, ?hy35⟩) (by assumption) ?rest35
                                              case hy35 => ((intro w hSw; (try dsimp only at hSw); go_simp) <;> with_reducible rfl)
                                              case rest35 =>
                                                (try simp only [Act.put, List.setIfInBounds_toArray, List.set_cons_zero, List.set_cons_succ])
                                                refine anyH_at #[true, true, true, true, true, true, true, true, true, true, true, true, true, true, true, true, true, true, true, true, true, true, true, true, true, true, true, true, true, true, true, true, true, true, false, true, false, false, false, false, false, false, false, false, false, false, false, false, false, false] (by kernel_rfl) ?_
                                                refine wpAnyH_take (i := 36) (oi := { dst := some 56, op := _, type := _, pos := _, after := _, guard := _ }) (v := ?vv36) rfl (by kernel_rfl) (by kernel_rfl) (by kernel_rfl) (fun _ _ _ h => h) (Or.inl ⟨by rfl, ?hy36⟩) (by assumption) ?rest36
                                                case hy36 => ((intro w hSw; (try dsimp only at hSw); go_simp) <;> with_reducible rfl)
                                                case rest36 =>
                                                  (try simp only [Act.put, List.setIfInBounds_toArray, List.set_cons_zero, List.set_cons_succ])
                                                  refine anyH_at #[true, true, true, true, true, true, true, true, true, true, true, true, true, true, true, true, true, true, true, true, true, true, true, true, true, true, true, true, true, true, true, true, true, true, false, true, true, false, false, false, false, false, false, false, false, false, false, false, false, false] (by kernel_rfl) ?_
                                                  refine wpAnyH_ready (rs := [34]) (by kernel_rfl) (by simp) ?_
                                                  refine AllReadyH.cons (o := { dst := some 54, op := _, type := _, pos := _, after := _, guard := _ }) rfl (fun Kk hKk => ?_) AllReadyH.nil
                                                  go_simp
                                                  refine (cmp_n v u _).mono ?_
                                                  rintro e g34 ⟨rfl, hbl⟩
                                                  have HB := hide (bthen (unhide HB) hbl)
                                                  have Hx := hide ((unhide Hx).below hbl); have Hy := hide ((unhide Hy).below hbl)
                                                  (try go_wp2_with fail)
                                                  refine hKk.out _ _ ?_ (fun hHeld => ?_)
                                                  · (try dsimp only)
                                                    exact ((stable_cell _ _).and ((stable_cell _ _).and ((stable_cell _ _).and ((stable_cell _ _).and ((stable_cell _ _).and ((stable_cell _ _).and (stable_cell _ _))))))) _ _ hHeld hbl
                                                  clear hKk Kk
                                                  (try simp only [List.setIfInBounds_toArray, List.set_cons_zero, List.set_cons_succ])
                                                  refine anyH_at #[true, true, true, true, true, true, true, true, true, true, true, true, true, true, true, true, true, true, true, true, true, true, true, true, true, true, true, true, true, true, true, true, true, true, true, true, true, false, false, false, false, false, false, false, false, false, false, false, false, false] (by kernel_rfl) ?_
                                                  refine wpAnyH_ready (rs := [37]) (by kernel_rfl) (by simp) ?_
                                                  refine AllReadyH.cons (o := { dst := some 57, op := _, type := _, pos := _, after := _, guard := _ }) rfl (fun Kk hKk => ?_) AllReadyH.nil
                                                  go_simp
                                                  refine (refCmp_any ax ay nx cx ny cy v u _ (unhide Hx) (unhide Hy)).mono ?_
                                                  rintro e g37 ⟨rfl, hbl⟩
                                                  have HB := hide (bthen (unhide HB) hbl)
                                                  (try go_wp2_with fail)
                                                  refine hKk.out _ _ ?_ (fun hHeld => ?_)
                                                  · (try dsimp only)
                                                    exact ((stable_cell _ _).and ((stable_cell _ _).and ((stable_cell _ _).and ((stable_cell _ _).and ((stable_cell _ _).and ((stable_cell _ _).and (stable_cell _ _))))))) _ _ hHeld hbl
                                                  clear hKk Kk
                                                  (try simp only [List.setIfInBounds_toArray, List.set_cons_zero, List.set_cons_succ])
                                                  refine anyH_at #[true, true, true, true, true, true, true, true, true, true, true, true, true, true, true, true, true, true, true, true, true, true, true, true, true, true, true, true, true, true, true, true, true, true, true, true, true, true, false, false, false, false, false, false, false, false, false, false, false, false] (by kernel_rfl) ?_
                                                  refine wpAnyH_take (i := 38) (oi := { dst := some 58, op := _, type := _, pos := _, after := _, guard := _ }) (v := .bool true) rfl (by kernel_rfl) (by kernel_rfl) (by kernel_rfl) (fun _ _ _ h => h) (Or.inl ⟨by rfl, ?hy38⟩) (by assumption) ?rest38
                                                  case hy38 => ((intro w hSw; (try dsimp only at hSw); go_simp) <;> with_reducible rfl)
                                                  case rest38 =>
                                                    (try simp only [Act.put, List.setIfInBounds_toArray, List.set_cons_zero, List.set_cons_succ])
                                                    refine anyH_at #[true, true, true, true, true, true, true, true, true, true, true, true, true, true, true, true, true, true, true, true, true, true, true, true, true, true, true, true, true, true, true, true, true, true, true, true, true, true, true, false, false, false, false, false, false, false, false, false, false, false] (by kernel_rfl) ?_
                                                    refine wpAnyH_take (i := 39) (oi := { dst := some 59, op := _, type := _, pos := _, after := _, guard := _ }) (v := ?vv39) rfl (by kernel_rfl) (by kernel_rfl) (by kernel_rfl) (fun _ _ _ h => h) (Or.inl ⟨by rfl, ?hy39⟩) (by assumption) ?rest39
                                                    case hy39 => ((intro w hSw; (try dsimp only at hSw); go_simp) <;> with_reducible rfl)
                                                    case rest39 =>
                                                      (try simp only [Act.put, List.setIfInBounds_toArray, List.set_cons_zero, List.set_cons_succ])
                                                      refine anyH_at #[true, true, true, true, true, true, true, true, true, true, true, true, true, true, true, true, true, true, true, true, true, true, true, true, true, true, true, true, true, true, true, true, true, true, true, true, true, true, true, true, false, false, false, false, false, false, false, false, false, false] (by kernel_rfl) ?_
                                                      refine wpAnyH_take (i := 40) (oi := { dst := some 60, op := _, type := _, pos := _, after := _, guard := _ }) (v := ?vv40) rfl (by kernel_rfl) (by kernel_rfl) (by kernel_rfl) (fun _ _ _ h => h) (Or.inl ⟨by rfl, ?hy40⟩) (by assumption) ?rest40
                                                      case hy40 => ((intro w hSw; (try dsimp only at hSw); go_simp) <;> with_reducible rfl)
                                                      case rest40 =>
                                                        (try simp only [Act.put, List.setIfInBounds_toArray, List.set_cons_zero, List.set_cons_succ])
                                                        refine anyH_at #[true, true, true, true, true, true, true, true, true, true, true, true, true, true, true, true, true, true, true, true, true, true, true, true, true, true, true, true, true, true, true, true, true, true, true, true, true, true, true, true, true, false, false, false, false, false, false, false, false, false] (by kernel_rfl) ?_
                                                        refine wpAnyH_take (i := 41) (oi := { dst := some 61, op := _, type := _, pos := _, after := _, guard := _ }) (v := ?vv41) rfl (by kernel_rfl) (by kernel_rfl) (by kernel_rfl) (fun _ _ _ h => h) (Or.inl ⟨by rfl, ?hy41⟩) (by assumption) ?rest41
                                                        case hy41 => ((intro w hSw; (try dsimp only at hSw); go_simp) <;> with_reducible rfl)
                                                        case rest41 =>
                                                          (try simp only [Act.put, List.setIfInBounds_toArray, List.set_cons_zero, List.set_cons_succ])
                                                          refine anyH_at #[true, true, true, true, true, true, true, true, true, true, true, true, true, true, true, true, true, true, true, true, true, true, true, true, true, true, true, true, true, true, true, true, true, true, true, true, true, true, true, true, true, true, false, false, false, false, false, false, false, false] (by kernel_rfl) ?_
                                                          refine wpAnyH_take (i := 42) (oi := { dst := some 62, op := _, type := _, pos := _, after := _, guard := _ }) (v := ?vv42) rfl (by kernel_rfl) (by kernel_rfl) (by kernel_rfl) (fun _ _ _ h => h) (Or.inl ⟨by rfl, ?hy42⟩) (by assumption) ?rest42
                                                          case hy42 => ((intro w hSw; (try dsimp only at hSw); go_simp) <;> with_reducible rfl)
                                                          case rest42 =>
                                                            (try simp only [Act.put, List.setIfInBounds_toArray, List.set_cons_zero, List.set_cons_succ])
                                                            refine anyH_at #[true, true, true, true, true, true, true, true, true, true, true, true, true, true, true, true, true, true, true, true, true, true, true, true, true, true, true, true, true, true, true, true, true, true, true, true, true, true, true, true, true, true, true, false, false, false, false, false, false, false] (by kernel_rfl) ?_
                                                            refine wpAnyH_take (i := 44) (oi := { dst := some 64, op := _, type := _, pos := _, after := _, guard := _ }) (v := ?vv44) rfl (by kernel_rfl) (by kernel_rfl) (by kernel_rfl) (fun _ _ _ h => h) (Or.inl ⟨by rfl, ?hy44⟩) (by assumption) ?rest44
                                                            case hy44 => ((intro w hSw; (try dsimp only at hSw); go_simp) <;> with_reducible rfl)
                                                            case rest44 =>
                                                              (try simp only [Act.put, List.setIfInBounds_toArray, List.set_cons_zero, List.set_cons_succ])
                                                              refine anyH_at #[true, true, true, true, true, true, true, true, true, true, true, true, true, true, true, true, true, true, true, true, true, true, true, true, true, true, true, true, true, true, true, true, true, true, true, true, true, true, true, true, true, true, true, false, true, false, false, false, false, false] (by kernel_rfl) ?_
                                                              refine wpAnyH_take (i := 45) (oi := { dst := some 65, op := _, type := _, pos := _, after := _, guard := _ }) (v := ?vv45) rfl (by kernel_rfl) (by kernel_rfl) (by kernel_rfl) (fun _ _ _ h => h) (Or.inl ⟨by rfl, ?hy45⟩) (by assumption) ?rest45
                                                              case hy45 => ((intro w hSw; (try dsimp only at hSw); go_simp) <;> with_reducible rfl)
                                                              case rest45 =>
                                                                (try simp only [Act.put, List.setIfInBounds_toArray, List.set_cons_zero, List.set_cons_succ])
                                                                refine anyH_at #[true, true, true, true, true, true, true, true, true, true, true, true, true, true, true, true, true, true, true, true, true, true, true, true, true, true, true, true, true, true, true, true, true, true, true, true, true, true, true, true, true, true, true, false, true, true, false, false, false, false] (by kernel_rfl) ?_
                                                                refine wpAnyH_ready (rs := [43]) (by kernel_rfl) (by simp) ?_
                                                                refine AllReadyH.cons (o := { dst := some 63, op := _, type := _, pos := _, after := _, guard := _ }) rfl (fun Kk hKk => ?_) AllReadyH.nil
                                                                go_simp
                                                                refine (unhide CO _).mono ?_
                                                                rintro e g43 ⟨rfl, hbl⟩
                                                                have HB := hide (bthen (unhide HB) hbl)
                                                                (try go_wp2_with fail)
                                                                refine hKk.out _ _ ?_ (fun hHeld => ?_)
                                                                · (try dsimp only)
                                                                  exact ((stable_cell _ _).and ((stable_cell _ _).and ((stable_cell _ _).and ((stable_cell _ _).and ((stable_cell _ _).and ((stable_cell _ _).and (stable_cell _ _))))))) _ _ hHeld hbl
                                                                clear hKk Kk
                                                                (try simp only [List.setIfInBounds_toArray, List.set_cons_zero, List.set_cons_succ])
                                                                refine anyH_at #[true, true, true, true, true, true, true, true, true, true, true, true, true, true, true, true, true, true, true, true, true, true, true, true, true, true, true, true, true, true, true, true, true, true, true, true, true, true, true, true, true, true, true, true, true, true, false, false, false, false] (by kernel_rfl) ?_
                                                                refine wpAnyH_ready (rs := [46]) (by kernel_rfl) (by simp) ?_
                                                                refine AllReadyH.cons (o := { dst := some 66, op := _, type := _, pos := _, after := _, guard := _ }) rfl (fun Kk hKk => ?_) AllReadyH.nil
                                                                go_simp
                                                                refine (unhide CRh _).mono ?_
                                                                rintro e g46 ⟨s46, rfl, hN, hbl⟩
                                                                obtain ⟨j46, m46, l46, rfl⟩ := hN.slice
                                                                have G46 := hide hN
                                                                clear hN
                                                                have HB := hide (bthen (unhide HB) hbl)
                                                                (try go_wp2_with fail)
                                                                refine hKk.out _ _ ?_ (fun hHeld => ?_)
                                                                · (try dsimp only)
                                                                  exact ((stable_cell _ _).and ((stable_cell _ _).and ((stable_cell _ _).and ((stable_cell _ _).and ((stable_cell _ _).and ((stable_cell _ _).and (stable_cell _ _))))))) _ _ hHeld hbl
                                                                clear hKk Kk
                                                                (try simp only [List.setIfInBounds_toArray, List.set_cons_zero, List.set_cons_succ])
                                                                refine anyH_at #[true, true, true, true, true, true, true, true, true, true, true, true, true, true, true, true, true, true, true, true, true, true, true, true, true, true, true, true, true, true, true, true, true, true, true, true, true, true, true, true, true, true, true, true, true, true, true, false, false, false] (by kernel_rfl) ?_
                                                                refine wpAnyH_ready (rs := [47]) (by kernel_rfl) (by simp) ?_
                                                                refine AllReadyH.cons (o := { dst := some 67, op := _, type := _, pos := _, after := _, guard := _ }) rfl (fun Kk hKk => ?_) AllReadyH.nil
                                                                go_simp
                                                                refine (is_any j46 m46 l46 h _ (unhide G46) (unhide HHw)).mono ?_
                                                                rintro e g47 ⟨rfl, hbl⟩
                                                                have HB := hide (bthen (unhide HB) hbl)
                                                                (try go_wp2_with fail)
                                                                refine hKk.out _ _ ?_ (fun hHeld => ?_)
                                                                · (try dsimp only)
                                                                  exact ((stable_cell _ _).and ((stable_cell _ _).and ((stable_cell _ _).and ((stable_cell _ _).and ((stable_cell _ _).and ((stable_cell _ _).and (stable_cell _ _))))))) _ _ hHeld hbl
                                                                clear hKk Kk
                                                                (try simp only [List.setIfInBounds_toArray, List.set_cons_zero, List.set_cons_succ])
                                                                refine anyH_at #[true, true, true, true, true, true, true, true, true, true, true, true, true, true, true, true, true, true, true, true, true, true, true, true, true, true, true, true, true, true, true, true, true, true, true, true, true, true, true, true, true, true, true, true, true, true, true, true, false, false] (by kernel_rfl) ?_
                                                                refine wpAnyH_take (i := 48) (oi := { dst := some 68, op := _, type := _, pos := _, after := _, guard := _ }) (v := ?vv48) rfl (by kernel_rfl) (by kernel_rfl) (by kernel_rfl) (fun _ _ _ h => h) (Or.inl ⟨by rfl, ?hy48⟩) (by assumption) ?rest48
                                                                case hy48 => ((intro w hSw; (try dsimp only at hSw); go_simp) <;> with_reducible rfl)
                                                                case rest48 =>
                                                                  (try simp only [Act.put, List.setIfInBounds_toArray, List.set_cons_zero, List.set_cons_succ])
                                                                  refine anyH_at #[true, true, true, true, true, true, true, true, true, true, true, true, true, true, true, true, true, true, true, true, true, true, true, true, true, true, true, true, true, true, true, true, true, true, true, true, true, true, true, true, true, true, true, true, true, true, true, true, true, false] (by kernel_rfl) ?_
                                                                  refine wpAnyH_take (i := 49) (oi := { dst := some 4, op := _, type := _, pos := _, after := _, guard := _ }) (v := ?vv49) rfl (by kernel_rfl) (by kernel_rfl) (by kernel_rfl) (fun _ _ _ h => h) (Or.inl ⟨by rfl, ?hy49⟩) (by assumption) ?rest49
                                                                  case hy49 => ((intro w hSw; (try dsimp only at hSw); go_simp) <;> with_reducible rfl)
                                                                  case rest49 =>
                                                                    (try simp only [Act.put, List.setIfInBounds_toArray, List.set_cons_zero, List.set_cons_succ])
                                                                    refine anyH_at #[true, true, true, true, true, true, true, true, true, true, true, true, true, true, true, true, true, true, true, true, true, true, true, true, true, true, true, true, true, true, true, true, true, true, true, true, true, true, true, true, true, true, true, true, true, true, true, true, true, true] (by kernel_rfl) ?_
                                                                    refine wpAnyH_done (by kernel_rfl) ?_ _
                                                                    go_wp2
                                                                    go_ret
                                                                    exact ⟨rfl, unhide HB⟩

end Go.Proofs.Ytifacdihhhcmnaa
