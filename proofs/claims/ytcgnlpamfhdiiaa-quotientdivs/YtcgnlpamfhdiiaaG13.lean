/- WRefJ, Quot, Grain, NearA. -/
import Derived.Test.YtcgnlpamfhdiiaaG01
import Derived.Test.YtcgnlpamfhdiiaaG04
import Derived.Test.YtcgnlpamfhdiiaaG06
import Derived.Test.YtcgnlpamfhdiiaaG12
namespace Go.Proofs.Ytcgnlpamfhdiiaa.W
open Go.RowKit

theorem pow_ne (k : Nat) : 1 * 2 ^ k ≠ 0 := by rw [Nat.one_mul]; exact Nat.ne_of_gt (Nat.two_pow_pos k)

theorem IsNat.pos {w : World} {a : Option Addr} {n c x : Nat} (h : IsNat w (.slice a n c) x) : (0 < n) = (x ≠ 0) := by
  refine propext ⟨fun hn hx => ?_, fun hx => ?_⟩
  · have := h.short (k := 0) (by rw [pw_0]; omega)
    omega
  · refine Decidable.byContradiction fun hn => ?_
    have := h.len.1
    rw [show n = 0 by omega, pw_0] at this
    omega

set_option maxRecDepth 100000 in
set_option maxHeartbeats 2000000 in
theorem half_any (a : Option Addr) (n c x k : Nat) (w : World) (hx : IsNat w (.slice a n c) x) (bx : x < pw 300) (hk : k ≤ 600) :
    Calls Try.prog 54 #[.agg #[.slice a n c], .int .i64 (k : Int)] w fun e w' => ∃ s1, e = .returned (.tuple #[.agg #[s1], .bool (decide (x % 2 ^ k ≠ 0))]) ∧ IsNat w' s1 (x / 2 ^ k) ∧ Below w.heap.size w w' := by
  have HX := hide hx; have HBX := hide bx
  clear hx bx
  go_enter Try.func54, Try.ntmps54
  go_wp2_with fail
  refine wp_region_held_drew (S := fun w' => w'.cell? ⟨w.heap.size, 0, none⟩ = some (.slice a n c)) (by kernel_rfl) ?_ (fun hHeld => ?_)
  · simp [go_sem]
  refine wu_start (N := w.heap.size + 2) (i1 := 8) (d1 := 6) (v1 := .slice none 0 0) (t1 := 50) (i2 := 9) (d2 := 7) (v2 := .slice none 0 0) (t2 := 50) (f := 2) (n := 8) 
    (T := fun w' => IsNat w' (.slice a n c) x ∧ Below w.heap.size w w' ∧ (w'.cell? ⟨w.heap.size + 1, 0, none⟩ = some (.slice none 0 0) ∧ w'.frozen? ⟨w.heap.size + 1, 0, none⟩ = false))
    (by kernel_rfl) (by kernel_rfl) (fun _ _ _ _ _ h => h) (stable_cell _ _) (by decide) (by decide) ?_ ?_ ((stable_nat _ _).and ((stable_below _).and (stable_var _ _))) hHeld ?_ ?_ ?_
  · intro a w K h
    unfold wpOp
    go_simp
    exact Or.inl h
  · intro a w K h
    unfold wpOp
    go_simp
    exact Or.inl h
  · refine ⟨(unhide HX).below (below2d _ _ _), below2d _ _ _, by simp [go_sem], by simp [go_sem]⟩
  · simp
  refine wu_take (i := 0) (oi := { dst := some 9, op := _, type := _, pos := _, after := _, guard := _ }) rfl (by kernel_rfl) (by kernel_rfl) (fun _ _ _ h => h) (Or.inl ⟨by rfl, fun w hSw => by (try dsimp only at hSw); go_simp; with_reducible rfl⟩) ?_
  (try simp only [Act.put, List.setIfInBounds_toArray, List.set_cons_zero, List.set_cons_succ])
  refine wu_take (i := 2) (oi := { dst := some 11, op := _, type := _, pos := _, after := _, guard := _ }) rfl (by kernel_rfl) (by kernel_rfl) (fun _ _ _ h => h) (Or.inl ⟨by rfl, fun w hSw => by (try dsimp only at hSw); go_simp; with_reducible rfl⟩) ?_
  (try simp only [Act.put, List.setIfInBounds_toArray, List.set_cons_zero, List.set_cons_succ])
  refine wu_call (c := 1) (o := { dst := some 10, op := _, type := _, pos := _, after := _, guard := _ }) rfl (by kernel_rfl) (by kernel_rfl) (fun u hSu hTu K hK => ?_)
  go_simp
  refine (refOf_1 _).mono ?_
  rintro e w8 ⟨s8, rfl, hN8, hb8⟩
  obtain ⟨a8, n8, c8, rfl⟩ := hN8.slice
  have HT := hide ((((stable_nat _ _).and ((stable_below _).and (stable_var _ _))) _ _ hTu hb8)); clear hTu hSu
  (try go_wp2_with fail)
  refine hK.out _ _ (fun w' => IsNat w' (.slice a8 n8 c8) 1 ∧ IsNat w' (.slice a n c) x ∧ Below w.heap.size w w' ∧ (w'.cell? ⟨w.heap.size + 1, 0, none⟩ = some (.slice none 0 0) ∧ w'.frozen? ⟨w.heap.size + 1, 0, none⟩ = false)) (by assumption) ((stable_nat _ _).and ((stable_nat _ _).and ((stable_below _).and (stable_var _ _)))) (⟨hN8, unhide HT⟩) ?_
  clear hK K
  (try simp only [Act.put, List.setIfInBounds_toArray, List.set_cons_zero, List.set_cons_succ])
  clear HT hN8
  refine wu_call (c := 3) (o := { dst := some 12, op := _, type := _, pos := _, after := _, guard := _ }) rfl (by kernel_rfl) (by kernel_rfl) (fun u hSu hTu K hK => ?_)
  go_simp
  refine (refShl_any a8 n8 c8 1 k _ hTu.1 (Nat.le_trans (hTu.1.short (k := 1) (by rw [pw_1]; omega)) (by omega)) (by omega)).mono ?_
  rintro e w9 ⟨s9, rfl, hN9, hb9⟩
  obtain ⟨a9, n9, c9, rfl⟩ := hN9.slice
  have HT := hide ((((stable_nat _ _).and ((stable_below _).and (stable_var _ _))) _ _ hTu.2 hb9)); clear hTu hSu
  (try go_wp2_with fail)
  refine hK.out _ _ (fun w' => IsNat w' (.slice a9 n9 c9) (1 * 2 ^ k) ∧ IsNat w' (.slice a n c) x ∧ Below w.heap.size w w' ∧ (w'.cell? ⟨w.heap.size + 1, 0, none⟩ = some (.slice none 0 0) ∧ w'.frozen? ⟨w.heap.size + 1, 0, none⟩ = false)) (by assumption) ((stable_nat _ _).and ((stable_nat _ _).and ((stable_below _).and (stable_var _ _)))) (⟨hN9, unhide HT⟩) ?_
  clear hK K
  (try simp only [Act.put, List.setIfInBounds_toArray, List.set_cons_zero, List.set_cons_succ])
  clear HT hN9
  refine wu_call (c := 4) (o := { dst := some 13, op := _, type := _, pos := _, after := _, guard := _ }) rfl (by kernel_rfl) (by kernel_rfl) (fun u hSu hTu K hK => ?_)
  go_simp
  refine (refDiv_any a a9 n c n9 c9 x (1 * 2 ^ k) _ hTu.2.1 hTu.1 (pow_ne k) (unhide HBX) (pow_pw (by omega))).mono ?_
  rintro e w10 ⟨s10, s11, rfl, hN10, hN11, hb10⟩
  obtain ⟨a10, n10, c10, rfl⟩ := hN10.slice
  obtain ⟨a11, n11, c11, rfl⟩ := hN11.slice
  have HT := hide ((((stable_below _).and (stable_var _ _))) _ _ hTu.2.2 hb10); clear hTu hSu
  (try go_wp2_with fail)
  refine hK.out _ _ (fun w' => IsNat w' (.slice a10 n10 c10) (x / (1 * 2 ^ k)) ∧ IsNat w' (.slice a11 n11 c11) (x % (1 * 2 ^ k)) ∧ Below w.heap.size w w' ∧ (w'.cell? ⟨w.heap.size + 1, 0, none⟩ = some (.slice none 0 0) ∧ w'.frozen? ⟨w.heap.size + 1, 0, none⟩ = false)) (by assumption) ((stable_nat _ _).and ((stable_nat _ _).and ((stable_below _).and (stable_var _ _)))) (⟨hN10, hN11, unhide HT⟩) ?_
  clear hK K
  (try simp only [Act.put, List.setIfInBounds_toArray, List.set_cons_zero, List.set_cons_succ])
  clear HT hN10 hN11
  refine wu_take (i := 5) (oi := { dst := some 8, op := _, type := _, pos := _, after := _, guard := _ }) rfl (by kernel_rfl) (by kernel_rfl) (fun _ _ _ h => h) (Or.inl ⟨by rfl, fun w hSw => by (try dsimp only at hSw); go_simp; with_reducible rfl⟩) ?_
  (try simp only [Act.put, List.setIfInBounds_toArray, List.set_cons_zero, List.set_cons_succ])
  refine wu_take (i := 6) (oi := { dst := some 14, op := _, type := _, pos := _, after := _, guard := _ }) rfl (by kernel_rfl) (by kernel_rfl) (fun _ _ _ h => h) (Or.inl ⟨by rfl, fun w hSw => by (try dsimp only at hSw); go_simp; with_reducible rfl⟩) ?_
  (try simp only [Act.put, List.setIfInBounds_toArray, List.set_cons_zero, List.set_cons_succ])
  refine wu_take (i := 7) (oi := { dst := some 15, op := _, type := _, pos := _, after := _, guard := _ }) rfl (by kernel_rfl) (by kernel_rfl) (fun _ _ _ h => h) (Or.inl ⟨by rfl, fun w hSw => by (try dsimp only at hSw); go_simp; with_reducible rfl⟩) ?_
  (try simp only [Act.put, List.setIfInBounds_toArray, List.set_cons_zero, List.set_cons_succ])
  refine wu_fin (by kernel_rfl) (fun w11 b1 b2 hb hSu hTu k1 k2 => ?_)
  (try simp only [Act.put, List.setIfInBounds_toArray, List.set_cons_zero, List.set_cons_succ])
  obtain ⟨h1, h2, h3, h4, h5⟩ := hTu
  have c1 := k1.cell; have f1 := k1.thawed; have c2 := k2.cell; have f2 := k2.thawed
  have z1 := k1.base; have z2 := k2.base
  unfold ptr
  have hc2 : (w11.setCell ⟨b1, 0, none⟩ (.slice a10 n10 c10)).cell? ⟨b2, 0, none⟩ = some (.slice none 0 0) := by rw [World.cell?_setCell_other _ _ _ _ (by intro he; injection he with he1; omega)]; exact c2
  have hr2 : ((w11.setCell ⟨b1, 0, none⟩ (.slice a10 n10 c10)).setCell ⟨b2, 0, none⟩ (.slice a11 n11 c11)).cell? ⟨w.heap.size + 1, 0, none⟩ = some (.slice none 0 0) := by
    rw [World.cell?_setCell_other _ _ _ _ (by intro he; injection he with he1; omega), World.cell?_setCell_other _ _ _ _ (by intro he; injection he with he1; omega)]; exact h4
  have hr1 : ((w11.setCell ⟨b1, 0, none⟩ (.slice a10 n10 c10)).setCell ⟨b2, 0, none⟩ (.slice a11 n11 c11)).cell? ⟨b1, 0, none⟩ = some (.slice a10 n10 c10) := by
    rw [World.cell?_setCell_other _ _ _ _ (by intro he; injection he with he1; omega)]; exact World.cell?_setCell_same _ _ _ c1
  have hr0 : ((w11.setCell ⟨b1, 0, none⟩ (.slice a10 n10 c10)).setCell ⟨b2, 0, none⟩ (.slice a11 n11 c11)).cell? ⟨b2, 0, none⟩ = some (.slice a11 n11 c11) := World.cell?_setCell_same _ _ _ hc2
  have hs2 : ((w11.setCell ⟨b1, 0, none⟩ (.slice a10 n10 c10)).setCell ⟨b2, 0, none⟩ (.slice a11 n11 c11)).cell? ⟨w.heap.size, 0, none⟩ = some (.slice a n c) := by
    rw [World.cell?_setCell_other _ _ _ _ (by intro he; injection he with he1; omega), World.cell?_setCell_other _ _ _ _ (by intro he; injection he with he1; omega)]; exact hSu
  refine anyH_at #[true, true, true, true, true, true, true, true, true, true, false, false] (by kernel_rfl) ?_
  refine wpAnyH_ready (rs := [10]) (by kernel_rfl) (by simp) ?_
  refine AllReadyH.cons (o := { dst := none, op := _, type := _, pos := _, after := _, guard := _ }) rfl (fun K hK => ?_) AllReadyH.nil
  go_simp
  refine hK.out _ _ ?_ (fun hHeld => ?_)
  · rw [World.cell?_setCell_other _ _ _ _ (by intro he; injection he with he1; omega)]; exact hSu
  clear hK K
  refine anyH_at #[true, true, true, true, true, true, true, true, true, true, true, false] (by kernel_rfl) ?_
  refine wpAnyH_ready (rs := [11]) (by kernel_rfl) (by simp) ?_
  refine AllReadyH.cons (o := { dst := none, op := _, type := _, pos := _, after := _, guard := _ }) rfl (fun K hK => ?_) AllReadyH.nil
  go_simp
  refine hK.out _ _ hs2 (fun hHeld => ?_)
  clear hK K
  refine wpAnyH_done (by kernel_rfl) ?_ _
  have B2 : Below w.heap.size w ((w11.setCell ⟨b1, 0, none⟩ (.slice a10 n10 c10)).setCell ⟨b2, 0, none⟩ (.slice a11 n11 c11)) := (h3.setCell (by simp; omega) _).setCell (by simp; omega) _
  have N1 := hide (store_two h1 c1 c2 hb (.slice a10 n10 c10) (.slice a11 n11 c11)); have N2 := hide (store_two h2 c1 c2 hb (.slice a10 n10 c10) (.slice a11 n11 c11))
  have f5 : ((w11.setCell ⟨b1, 0, none⟩ (.slice a10 n10 c10)).setCell ⟨b2, 0, none⟩ (.slice a11 n11 c11)).frozen? ⟨w.heap.size + 1, 0, none⟩ = false := by rw [frozen_set, frozen_set]; exact h5
  generalize (w11.setCell ⟨b1, 0, none⟩ (.slice a10 n10 c10)).setCell ⟨b2, 0, none⟩ (.slice a11 n11 c11) = w12 at *
  clear hHeld hs2 hc2 c1 c2 f1 f2 h1 h2 h3 h4 h5 hSu k1 k2 hb8 hb9 hb10
  have hw : w.heap.size + 1 ≠ b1 ∧ w.heap.size + 1 ≠ b2 := ⟨by omega, by omega⟩
  go_wp2_with fail
  go_region
  all_goals
    go_wp2
    refine bodyPost_ret (v := .tuple #[.agg #[.slice a10 n10 c10], .bool (decide ((0 : Int) < (n11 : Int)))]) (by simp [results, Try.results54, go_sem, hr2]) rfl ⟨.slice a10 n10 c10, ?_, ?_, ?_⟩
    · have h := (unhide N2).pos
      rw [Nat.one_mul] at h
      simp only [← h]
      simp
    · have h := (unhide N1).store hr2 (.slice a10 n10 c10)
      rw [Nat.one_mul] at h
      exact h
    · exact (B2.setCell (by simp) _).drew

end Go.Proofs.Ytcgnlpamfhdiiaa.W
namespace Go.Proofs.Ytcgnlpamfhdiiaa
open Go.RowKit
open Go.Proofs.Ytcgnlpamfhdiiaa.W

/-- The quotient's variables. -/
structure QSt (N B : Nat) (w : World) (bs s1 s2 : Value) (y q r : Nat) (w' : World) : Prop where
  cb : w'.cell? ⟨N + 1, 0, none⟩ = some bs
  c1 : w'.cell? ⟨B, 0, none⟩ = some s1
  c2 : w'.cell? ⟨B + 1, 0, none⟩ = some s2
  cr : w'.cell? ⟨N + 1 + 1, 0, none⟩ = some (.slice none 0 0)
  fr : w'.frozen? ⟨N + 1 + 1, 0, none⟩ = false
  nb : IsNat w' bs y
  n1 : IsNat w' s1 q
  n2 : IsNat w' s2 r
  bel : Below w.heap.size w w'
theorem QSt.below {N B : Nat} {w : World} {bs s1 s2 : Value} {y q r : Nat} {w' w'' : World} (h : QSt N B w bs s1 s2 y q r w') (hb : Below w'.heap.size w' w'') : QSt N B w bs s1 s2 y q r w'' :=
  { cb := keep1 hb (lt_of_cell h.cb) h.cb, c1 := keep1 hb (lt_of_cell h.c1) h.c1, c2 := keep1 hb (lt_of_cell h.c2) h.c2, cr := keep1 hb (lt_of_cell h.cr) h.cr,
    fr := by rw [hb.frozen (lt_of_cell h.cr)]; exact h.fr, nb := h.nb.below hb, n1 := h.n1.below hb, n2 := h.n2.below hb, bel := bthen h.bel hb }

theorem room1 {b : Nat} {v : Value} {w : World} (h : w.cell? ⟨b, 0, none⟩ = some v) (hf : w.frozen? ⟨b, 0, none⟩ = false) : Room b 1 w := fun o ho => by
  match o, ho with
  | 0, _ => exact ⟨⟨v, h⟩, hf⟩

theorem shl_one (a : Option Addr) (n c x : Nat) (w : World) (hx : IsNat w (.slice a n c) x) (hn : n ≤ 1000) :
    Calls Try.prog 65 #[.agg #[.slice a n c], .int .i64 1] w fun e w' => ∃ s', e = .returned (.agg #[s']) ∧ IsNat w' s' (x * 2 ^ 1) ∧ Below w.heap.size w w' := refShl_any a n c x 1 w hx hn (by omega)

set_option maxRecDepth 100000 in
set_option maxHeartbeats 2000000 in
theorem quot_g (a b : Option Addr) (n c m d x y : Nat) (w : World) (hx : IsNat w (.slice a n c) x) (hy : IsNat w (.slice b m d) y) (hy0 : y ≠ 0) (bx : x < pw 300) (hby : y < pw 300) (hv : cmpN (x % y * 2 ^ 1) y = 1) :
    Calls Try.prog 66 #[.agg #[.slice a n c], .agg #[.slice b m d]] w fun e w' => ∃ s', e = .returned (.agg #[s']) ∧ IsNat w' s' (x / y + 1) ∧ Below w.heap.size w w' := by
  have HV := hide hv; have HR := hide (Nat.lt_of_le_of_lt (Nat.mod_le x y) bx); have HX := hide hx; have HY := hide hy
  have HQ := hide (Nat.lt_of_le_of_lt (Nat.div_le_self x y) bx)
  clear hv hx hy
  go_enter Try.func66, Try.ntmps66
  go_wp2_with fail
  refine (refDiv_any a b n c m d x y _ ((unhide HX).below (balloc (below2 _ _ _) _)) ((unhide HY).below (balloc (below2 _ _ _) _)) hy0 bx hby).mono ?_
  rintro _ w1 ⟨s1, s2, rfl, hN1, hN2, hb⟩
  obtain ⟨a1, n1, c1, rfl⟩ := hN1.slice
  obtain ⟨a2, n2, c2, rfl⟩ := hN2.slice
  have hz : w.heap.size + 1 + 1 + 1 ≤ w1.heap.size := by have := hb.size; simp at this; omega
  have HNE : Hid (w1.heap.size ≠ w.heap.size + 1 + 1) := by unfold Hid; omega
  have HK : Hid (QSt w.heap.size w1.heap.size w (.slice b m d) (.slice a1 n1 c1) (.slice a2 n2 c2) y (x / y) (x % y) ((w1.alloc (.cells #[.slice a1 n1 c1] 50)).alloc (.cells #[.slice a2 n2 c2] 50))) := by
    have hb2 := below2 w1 (.cells #[.slice a1 n1 c1] 50) (.cells #[.slice a2 n2 c2] 50)
    have ha : Below w.heap.size w (((w.alloc (.cells #[.slice a n c] 50)).alloc (.cells #[.slice b m d] 50)).alloc (.cells #[.slice none 0 0] 50)) := balloc (below2 _ _ _) _
    have hB := bthen hb hb2
    exact { cb := by rw [hB.cell (by simp)]; simp [go_sem], c1 := by simp [go_sem], c2 := by simp [go_sem], cr := by rw [hB.cell (by simp)]; simp [go_sem], fr := by rw [hB.frozen (by simp)]; simp [go_sem],
             nb := ((unhide HY).below ha).below hB, n1 := hN1.below hb2, n2 := hN2.below hb2, bel := bthen ha hB }
  clear hb hN1 hN2 HX HY
  go_wp2_with fail
  have HK := hide ((unhide HK).below ((Below.refl _ _).drew))
  refine wp_region_held_drew (S := fun w' => w'.cell? ⟨w.heap.size + 1, 0, none⟩ = some (.slice b m d) ∧ w'.cell? ⟨w1.heap.size, 0, none⟩ = some (.slice a1 n1 c1) ∧ w'.cell? ⟨w1.heap.size + 1, 0, none⟩ = some (.slice a2 n2 c2)) (by kernel_rfl) ?_ (fun hHeld => ?_)
  · (try dsimp only)
    exact ⟨(unhide HK).cb, (unhide HK).c1, (unhide HK).c2⟩
  refine anyH_at #[false, false, false, false, false] (by kernel_rfl) ?_
  refine wpAnyH_take (i := 0) (oi := { dst := some 14, op := _, type := _, pos := _, after := _, guard := _ }) (v := ?vv0r2) rfl (by kernel_rfl) (by kernel_rfl) (by kernel_rfl) (fun _ _ _ h => h) (Or.inl ⟨by rfl, ?hy0r2⟩) (by assumption) ?rest0r2
  case hy0r2 => ((intro w hSw; (try dsimp only at hSw); go_simp) <;> with_reducible rfl)
  case rest0r2 =>
    (try simp only [Act.put, List.setIfInBounds_toArray, List.set_cons_zero, List.set_cons_succ])
    refine anyH_at #[true, false, false, false, false] (by kernel_rfl) ?_
    refine wpAnyH_take (i := 2) (oi := { dst := some 16, op := _, type := _, pos := _, after := _, guard := _ }) (v := ?vv2r2) rfl (by kernel_rfl) (by kernel_rfl) (by kernel_rfl) (fun _ _ _ h => h) (Or.inl ⟨by rfl, ?hy2r2⟩) (by assumption) ?rest2r2
    case hy2r2 => ((intro w hSw; (try dsimp only at hSw); go_simp) <;> with_reducible rfl)
    case rest2r2 =>
      (try simp only [Act.put, List.setIfInBounds_toArray, List.set_cons_zero, List.set_cons_succ])
      refine anyH_at #[true, false, true, false, false] (by kernel_rfl) ?_
      refine wpAnyH_ready (rs := [1]) (by kernel_rfl) (by simp) ?_
      refine AllReadyH.cons (o := { dst := some 15, op := _, type := _, pos := _, after := _, guard := _ }) rfl (fun Kk hKk => ?_) AllReadyH.nil
      go_simp
      refine (shl_one _ _ _ _ _ (unhide HK).n2 (Nat.le_trans ((unhide HK).n2.short (lt_pw 300 (unhide HR) (by omega))) (by omega))).mono ?_
      rintro _ w3 ⟨s3, rfl, hN3, hbl⟩
      obtain ⟨a3, n3, c3, rfl⟩ := hN3.slice
      have H3 := hide hN3
      have HK := hide ((unhide HK).below hbl)
      clear hbl hN3
      (try go_wp2_with fail)
      refine hKk.out _ _ ?_ (fun hHeld => ?_)
      · (try dsimp only)
        exact ⟨(unhide HK).cb, (unhide HK).c1, (unhide HK).c2⟩
      clear hKk Kk
      (try simp only [List.setIfInBounds_toArray, List.set_cons_zero, List.set_cons_succ])
      refine anyH_at #[true, true, true, false, false] (by kernel_rfl) ?_
      refine wpAnyH_ready (rs := [3]) (by kernel_rfl) (by simp) ?_
      refine AllReadyH.cons (o := { dst := some 17, op := _, type := _, pos := _, after := _, guard := _ }) rfl (fun Kk hKk => ?_) AllReadyH.nil
      go_simp
      refine (refCmp_any _ _ _ _ _ _ _ _ _ (unhide H3) (unhide HK).nb).mono ?_
      rw [unhide HV]
      rintro _ w4 ⟨rfl, hbl⟩
      have HK := hide ((unhide HK).below hbl)
      clear hbl H3
      (try go_wp2_with fail)
      refine hKk.out _ _ ?_ (fun hHeld => ?_)
      · (try dsimp only)
        exact ⟨(unhide HK).cb, (unhide HK).c1, (unhide HK).c2⟩
      clear hKk Kk
      (try simp only [List.setIfInBounds_toArray, List.set_cons_zero, List.set_cons_succ])
      refine anyH_at #[true, true, true, true, false] (by kernel_rfl) ?_
      refine wpAnyH_take (i := 4) (oi := { dst := some 7, op := _, type := _, pos := _, after := _, guard := _ }) (v := ?vv4r2) rfl (by kernel_rfl) (by kernel_rfl) (by kernel_rfl) (fun _ _ _ h => h) (Or.inl ⟨by rfl, ?hy4r2⟩) (by assumption) ?rest4r2
      case hy4r2 => ((intro w hSw; (try dsimp only at hSw); go_simp) <;> with_reducible rfl)
      case rest4r2 =>
        (try simp only [Act.put, List.setIfInBounds_toArray, List.set_cons_zero, List.set_cons_succ])
        refine anyH_at #[true, true, true, true, true] (by kernel_rfl) ?_
        refine wpAnyH_done (by kernel_rfl) ?_ _
        clear hHeld
        go_wp2_with fail
        have HK := hide ((unhide HK).below ((Below.refl _ _).drew))
        refine wp_region_held_drew (S := fun w' => w'.cell? ⟨w1.heap.size, 0, none⟩ = some (.slice a1 n1 c1) ∧ Room (w.heap.size + 1 + 1) 1 w') (by kernel_rfl) ?_ (fun hHeld => ?_)
        · (try dsimp only)
          exact ⟨(unhide HK).c1, room1 (unhide HK).cr (unhide HK).fr⟩
        refine anyH_at #[false, false, false, false] (by kernel_rfl) ?_
        refine wpAnyH_take (i := 0) (oi := { dst := some 30, op := _, type := _, pos := _, after := _, guard := _ }) (v := ?vv0r4) rfl (by kernel_rfl) (by kernel_rfl) (by kernel_rfl) (fun _ _ _ h => h) (Or.inl ⟨by rfl, ?hy0r4⟩) (by assumption) ?rest0r4
        case hy0r4 => ((intro w hSw; (try dsimp only at hSw); go_simp) <;> with_reducible rfl)
        case rest0r4 =>
          (try simp only [Act.put, List.setIfInBounds_toArray, List.set_cons_zero, List.set_cons_succ])
          refine anyH_at #[true, false, false, false] (by kernel_rfl) ?_
          refine wpAnyH_ready (rs := [1]) (by kernel_rfl) (by simp) ?_
          refine AllReadyH.cons (o := { dst := some 31, op := _, type := _, pos := _, after := _, guard := _ }) rfl (fun Kk hKk => ?_) AllReadyH.nil
          go_simp
          refine (refOf_1 _).mono ?_
          rintro _ w8 ⟨s8, rfl, hN8, hbl⟩
          obtain ⟨a8, n8, c8, rfl⟩ := hN8.slice
          have H8 := hide hN8
          have HK := hide ((unhide HK).below hbl)
          clear hbl hN8
          (try go_wp2_with fail)
          refine hKk.out _ _ ?_ (fun hHeld => ?_)
          · (try dsimp only)
            exact ⟨(unhide HK).c1, room1 (unhide HK).cr (unhide HK).fr⟩
          clear hKk Kk
          (try simp only [List.setIfInBounds_toArray, List.set_cons_zero, List.set_cons_succ])
          refine anyH_at #[true, true, false, false] (by kernel_rfl) ?_
          refine wpAnyH_ready (rs := [2]) (by kernel_rfl) (by simp) ?_
          refine AllReadyH.cons (o := { dst := some 32, op := _, type := _, pos := _, after := _, guard := _ }) rfl (fun Kk hKk => ?_) AllReadyH.nil
          go_simp
          refine (refAdd_any _ _ _ _ _ _ _ _ _ (unhide HK).n1 (unhide H8) (Nat.le_trans ((unhide HK).n1.short (lt_pw 300 (unhide HQ) (by omega))) (by omega)) (Nat.le_trans ((unhide H8).short (k := 1) (by rw [pw_1]; omega)) (by omega))).mono ?_
          rintro _ w9 ⟨s9, rfl, hN9, hbl⟩
          obtain ⟨a9, n9, c9, rfl⟩ := hN9.slice
          have H9 := hide hN9
          have HK := hide ((unhide HK).below hbl)
          clear hbl hN9
          (try go_wp2_with fail)
          refine hKk.out _ _ ?_ (fun hHeld => ?_)
          · (try dsimp only)
            exact ⟨(unhide HK).c1, room1 (unhide HK).cr (unhide HK).fr⟩
          clear hKk Kk
          (try simp only [List.setIfInBounds_toArray, List.set_cons_zero, List.set_cons_succ])
          refine anyH_at #[true, true, true, false] (by kernel_rfl) ?_
          refine wpAnyH_ready (rs := [3]) (by kernel_rfl) (by simp) ?_
          refine AllReadyH.cons (o := { dst := none, op := _, type := _, pos := _, after := _, guard := _ }) rfl (fun Kk hKk => ?_) AllReadyH.nil
          obtain ⟨⟨v0, c0⟩, f0⟩ := hHeld.2 0 (by omega)
          go_simp
          refine hKk.out _ _ ?_ (fun hHeld => ?_)
          · (try dsimp only)
            exact ⟨keep_set _ _ _ (unhide HNE) hHeld.1, hHeld.2.set _ _⟩
          clear hKk Kk
          (try simp only [List.setIfInBounds_toArray, List.set_cons_zero, List.set_cons_succ])
          refine anyH_at #[true, true, true, true] (by kernel_rfl) ?_
          refine wpAnyH_done (by kernel_rfl) ?_ _
          clear hHeld
          have cr := (unhide HK).cr
          go_wp2_with fail
          refine bodyPost_ret (v := .agg #[.slice a9 n9 c9]) (by simp [results, Try.results66, go_sem, cr]) rfl ⟨_, rfl, (unhide H9).store cr _, ?_⟩
          exact (unhide HK).bel.setCell (by simp; omega) _

set_option maxRecDepth 100000 in
set_option maxHeartbeats 2000000 in
theorem quot_l (a b : Option Addr) (n c m d x y : Nat) (w : World) (hx : IsNat w (.slice a n c) x) (hy : IsNat w (.slice b m d) y) (hy0 : y ≠ 0) (bx : x < pw 300) (hby : y < pw 300) (hv : cmpN (x % y * 2 ^ 1) y = (-1)) :
    Calls Try.prog 66 #[.agg #[.slice a n c], .agg #[.slice b m d]] w fun e w' => ∃ s', e = .returned (.agg #[s']) ∧ IsNat w' s' (x / y) ∧ Below w.heap.size w w' := by
  have HV := hide hv; have HR := hide (Nat.lt_of_le_of_lt (Nat.mod_le x y) bx); have HX := hide hx; have HY := hide hy
  clear hv hx hy
  go_enter Try.func66, Try.ntmps66
  go_wp2_with fail
  refine (refDiv_any a b n c m d x y _ ((unhide HX).below (balloc (below2 _ _ _) _)) ((unhide HY).below (balloc (below2 _ _ _) _)) hy0 bx hby).mono ?_
  rintro _ w1 ⟨s1, s2, rfl, hN1, hN2, hb⟩
  obtain ⟨a1, n1, c1, rfl⟩ := hN1.slice
  obtain ⟨a2, n2, c2, rfl⟩ := hN2.slice
  have hz : w.heap.size + 1 + 1 + 1 ≤ w1.heap.size := by have := hb.size; simp at this; omega
  have HK : Hid (QSt w.heap.size w1.heap.size w (.slice b m d) (.slice a1 n1 c1) (.slice a2 n2 c2) y (x / y) (x % y) ((w1.alloc (.cells #[.slice a1 n1 c1] 50)).alloc (.cells #[.slice a2 n2 c2] 50))) := by
    have hb2 := below2 w1 (.cells #[.slice a1 n1 c1] 50) (.cells #[.slice a2 n2 c2] 50)
    have ha : Below w.heap.size w (((w.alloc (.cells #[.slice a n c] 50)).alloc (.cells #[.slice b m d] 50)).alloc (.cells #[.slice none 0 0] 50)) := balloc (below2 _ _ _) _
    have hB := bthen hb hb2
    exact { cb := by rw [hB.cell (by simp)]; simp [go_sem], c1 := by simp [go_sem], c2 := by simp [go_sem], cr := by rw [hB.cell (by simp)]; simp [go_sem], fr := by rw [hB.frozen (by simp)]; simp [go_sem],
             nb := ((unhide HY).below ha).below hB, n1 := hN1.below hb2, n2 := hN2.below hb2, bel := bthen ha hB }
  clear hb hN1 hN2 HX HY
  go_wp2_with fail
  have HK := hide ((unhide HK).below ((Below.refl _ _).drew))
  refine wp_region_held_drew (S := fun w' => w'.cell? ⟨w.heap.size + 1, 0, none⟩ = some (.slice b m d) ∧ w'.cell? ⟨w1.heap.size, 0, none⟩ = some (.slice a1 n1 c1) ∧ w'.cell? ⟨w1.heap.size + 1, 0, none⟩ = some (.slice a2 n2 c2)) (by kernel_rfl) ?_ (fun hHeld => ?_)
  · (try dsimp only)
    exact ⟨(unhide HK).cb, (unhide HK).c1, (unhide HK).c2⟩
  refine anyH_at #[false, false, false, false, false] (by kernel_rfl) ?_
  refine wpAnyH_take (i := 0) (oi := { dst := some 14, op := _, type := _, pos := _, after := _, guard := _ }) (v := ?vv0r2) rfl (by kernel_rfl) (by kernel_rfl) (by kernel_rfl) (fun _ _ _ h => h) (Or.inl ⟨by rfl, ?hy0r2⟩) (by assumption) ?rest0r2
  case hy0r2 => ((intro w hSw; (try dsimp only at hSw); go_simp) <;> with_reducible rfl)
  case rest0r2 =>
    (try simp only [Act.put, List.setIfInBounds_toArray, List.set_cons_zero, List.set_cons_succ])
    refine anyH_at #[true, false, false, false, false] (by kernel_rfl) ?_
    refine wpAnyH_take (i := 2) (oi := { dst := some 16, op := _, type := _, pos := _, after := _, guard := _ }) (v := ?vv2r2) rfl (by kernel_rfl) (by kernel_rfl) (by kernel_rfl) (fun _ _ _ h => h) (Or.inl ⟨by rfl, ?hy2r2⟩) (by assumption) ?rest2r2
    case hy2r2 => ((intro w hSw; (try dsimp only at hSw); go_simp) <;> with_reducible rfl)
    case rest2r2 =>
      (try simp only [Act.put, List.setIfInBounds_toArray, List.set_cons_zero, List.set_cons_succ])
      refine anyH_at #[true, false, true, false, false] (by kernel_rfl) ?_
      refine wpAnyH_ready (rs := [1]) (by kernel_rfl) (by simp) ?_
      refine AllReadyH.cons (o := { dst := some 15, op := _, type := _, pos := _, after := _, guard := _ }) rfl (fun Kk hKk => ?_) AllReadyH.nil
      go_simp
      refine (shl_one _ _ _ _ _ (unhide HK).n2 (Nat.le_trans ((unhide HK).n2.short (lt_pw 300 (unhide HR) (by omega))) (by omega))).mono ?_
      rintro _ w3 ⟨s3, rfl, hN3, hbl⟩
      obtain ⟨a3, n3, c3, rfl⟩ := hN3.slice
      have H3 := hide hN3
      have HK := hide ((unhide HK).below hbl)
      clear hbl hN3
      (try go_wp2_with fail)
      refine hKk.out _ _ ?_ (fun hHeld => ?_)
      · (try dsimp only)
        exact ⟨(unhide HK).cb, (unhide HK).c1, (unhide HK).c2⟩
      clear hKk Kk
      (try simp only [List.setIfInBounds_toArray, List.set_cons_zero, List.set_cons_succ])
      refine anyH_at #[true, true, true, false, false] (by kernel_rfl) ?_
      refine wpAnyH_ready (rs := [3]) (by kernel_rfl) (by simp) ?_
      refine AllReadyH.cons (o := { dst := some 17, op := _, type := _, pos := _, after := _, guard := _ }) rfl (fun Kk hKk => ?_) AllReadyH.nil
      go_simp
      refine (refCmp_any _ _ _ _ _ _ _ _ _ (unhide H3) (unhide HK).nb).mono ?_
      rw [unhide HV]
      rintro _ w4 ⟨rfl, hbl⟩
      have HK := hide ((unhide HK).below hbl)
      clear hbl H3
      (try go_wp2_with fail)
      refine hKk.out _ _ ?_ (fun hHeld => ?_)
      · (try dsimp only)
        exact ⟨(unhide HK).cb, (unhide HK).c1, (unhide HK).c2⟩
      clear hKk Kk
      (try simp only [List.setIfInBounds_toArray, List.set_cons_zero, List.set_cons_succ])
      refine anyH_at #[true, true, true, true, false] (by kernel_rfl) ?_
      refine wpAnyH_take (i := 4) (oi := { dst := some 7, op := _, type := _, pos := _, after := _, guard := _ }) (v := ?vv4r2) rfl (by kernel_rfl) (by kernel_rfl) (by kernel_rfl) (fun _ _ _ h => h) (Or.inl ⟨by rfl, ?hy4r2⟩) (by assumption) ?rest4r2
      case hy4r2 => ((intro w hSw; (try dsimp only at hSw); go_simp) <;> with_reducible rfl)
      case rest4r2 =>
        (try simp only [Act.put, List.setIfInBounds_toArray, List.set_cons_zero, List.set_cons_succ])
        refine anyH_at #[true, true, true, true, true] (by kernel_rfl) ?_
        refine wpAnyH_done (by kernel_rfl) ?_ _
        clear hHeld
        have cr := (unhide HK).cr
        have fr := (unhide HK).fr
        have c1' := (unhide HK).c1
        go_wp2_with fail
        refine bodyPost_ret (v := .agg #[.slice a1 n1 c1]) (by simp [results, Try.results66, go_sem, cr]) rfl ⟨_, rfl, (unhide HK).n1.store cr _, ?_⟩
        exact (unhide HK).bel.setCell (by simp; omega) _

set_option maxRecDepth 100000 in
set_option maxHeartbeats 2000000 in
theorem quot_o {L : Int} (a b : Option Addr) (n c m d x y : Nat) (w : World) (hx : IsNat w (.slice a n c) x) (hy : IsNat w (.slice b m d) y) (hy0 : y ≠ 0) (bx : x < pw 300) (hby : y < pw 300) (hv : cmpN (x % y * 2 ^ 1) y = 0) (hl : lo (x / y) = L) (km : L.tmod 2 = 1) :
    Calls Try.prog 66 #[.agg #[.slice a n c], .agg #[.slice b m d]] w fun e w' => ∃ s', e = .returned (.agg #[s']) ∧ IsNat w' s' (x / y + 1) ∧ Below w.heap.size w w' := by
  have HV := hide hv; have HR := hide (Nat.lt_of_le_of_lt (Nat.mod_le x y) bx); have HX := hide hx; have HY := hide hy
  have HQ := hide (Nat.lt_of_le_of_lt (Nat.div_le_self x y) bx)
  have HL := hide hl
  clear hl
  clear hv hx hy
  go_enter Try.func66, Try.ntmps66
  go_wp2_with fail
  refine (refDiv_any a b n c m d x y _ ((unhide HX).below (balloc (below2 _ _ _) _)) ((unhide HY).below (balloc (below2 _ _ _) _)) hy0 bx hby).mono ?_
  rintro _ w1 ⟨s1, s2, rfl, hN1, hN2, hb⟩
  obtain ⟨a1, n1, c1, rfl⟩ := hN1.slice
  obtain ⟨a2, n2, c2, rfl⟩ := hN2.slice
  have hz : w.heap.size + 1 + 1 + 1 ≤ w1.heap.size := by have := hb.size; simp at this; omega
  have HNE : Hid (w1.heap.size ≠ w.heap.size + 1 + 1) := by unfold Hid; omega
  have HK : Hid (QSt w.heap.size w1.heap.size w (.slice b m d) (.slice a1 n1 c1) (.slice a2 n2 c2) y (x / y) (x % y) ((w1.alloc (.cells #[.slice a1 n1 c1] 50)).alloc (.cells #[.slice a2 n2 c2] 50))) := by
    have hb2 := below2 w1 (.cells #[.slice a1 n1 c1] 50) (.cells #[.slice a2 n2 c2] 50)
    have ha : Below w.heap.size w (((w.alloc (.cells #[.slice a n c] 50)).alloc (.cells #[.slice b m d] 50)).alloc (.cells #[.slice none 0 0] 50)) := balloc (below2 _ _ _) _
    have hB := bthen hb hb2
    exact { cb := by rw [hB.cell (by simp)]; simp [go_sem], c1 := by simp [go_sem], c2 := by simp [go_sem], cr := by rw [hB.cell (by simp)]; simp [go_sem], fr := by rw [hB.frozen (by simp)]; simp [go_sem],
             nb := ((unhide HY).below ha).below hB, n1 := hN1.below hb2, n2 := hN2.below hb2, bel := bthen ha hB }
  clear hb hN1 hN2 HX HY
  go_wp2_with fail
  have HK := hide ((unhide HK).below ((Below.refl _ _).drew))
  refine wp_region_held_drew (S := fun w' => w'.cell? ⟨w.heap.size + 1, 0, none⟩ = some (.slice b m d) ∧ w'.cell? ⟨w1.heap.size, 0, none⟩ = some (.slice a1 n1 c1) ∧ w'.cell? ⟨w1.heap.size + 1, 0, none⟩ = some (.slice a2 n2 c2)) (by kernel_rfl) ?_ (fun hHeld => ?_)
  · (try dsimp only)
    exact ⟨(unhide HK).cb, (unhide HK).c1, (unhide HK).c2⟩
  refine anyH_at #[false, false, false, false, false] (by kernel_rfl) ?_
  refine wpAnyH_take (i := 0) (oi := { dst := some 14, op := _, type := _, pos := _, after := _, guard := _ }) (v := ?vv0r2) rfl (by kernel_rfl) (by kernel_rfl) (by kernel_rfl) (fun _ _ _ h => h) (Or.inl ⟨by rfl, ?hy0r2⟩) (by assumption) ?rest0r2
  case hy0r2 => ((intro w hSw; (try dsimp only at hSw); go_simp) <;> with_reducible rfl)
  case rest0r2 =>
    (try simp only [Act.put, List.setIfInBounds_toArray, List.set_cons_zero, List.set_cons_succ])
    refine anyH_at #[true, false, false, false, false] (by kernel_rfl) ?_
    refine wpAnyH_take (i := 2) (oi := { dst := some 16, op := _, type := _, pos := _, after := _, guard := _ }) (v := ?vv2r2) rfl (by kernel_rfl) (by kernel_rfl) (by kernel_rfl) (fun _ _ _ h => h) (Or.inl ⟨by rfl, ?hy2r2⟩) (by assumption) ?rest2r2
    case hy2r2 => ((intro w hSw; (try dsimp only at hSw); go_simp) <;> with_reducible rfl)
    case rest2r2 =>
      (try simp only [Act.put, List.setIfInBounds_toArray, List.set_cons_zero, List.set_cons_succ])
      refine anyH_at #[true, false, true, false, false] (by kernel_rfl) ?_
      refine wpAnyH_ready (rs := [1]) (by kernel_rfl) (by simp) ?_
      refine AllReadyH.cons (o := { dst := some 15, op := _, type := _, pos := _, after := _, guard := _ }) rfl (fun Kk hKk => ?_) AllReadyH.nil
      go_simp
      refine (shl_one _ _ _ _ _ (unhide HK).n2 (Nat.le_trans ((unhide HK).n2.short (lt_pw 300 (unhide HR) (by omega))) (by omega))).mono ?_
      rintro _ w3 ⟨s3, rfl, hN3, hbl⟩
      obtain ⟨a3, n3, c3, rfl⟩ := hN3.slice
      have H3 := hide hN3
      have HK := hide ((unhide HK).below hbl)
      clear hbl hN3
      (try go_wp2_with fail)
      refine hKk.out _ _ ?_ (fun hHeld => ?_)
      · (try dsimp only)
        exact ⟨(unhide HK).cb, (unhide HK).c1, (unhide HK).c2⟩
      clear hKk Kk
      (try simp only [List.setIfInBounds_toArray, List.set_cons_zero, List.set_cons_succ])
      refine anyH_at #[true, true, true, false, false] (by kernel_rfl) ?_
      refine wpAnyH_ready (rs := [3]) (by kernel_rfl) (by simp) ?_
      refine AllReadyH.cons (o := { dst := some 17, op := _, type := _, pos := _, after := _, guard := _ }) rfl (fun Kk hKk => ?_) AllReadyH.nil
      go_simp
      refine (refCmp_any _ _ _ _ _ _ _ _ _ (unhide H3) (unhide HK).nb).mono ?_
      rw [unhide HV]
      rintro _ w4 ⟨rfl, hbl⟩
      have HK := hide ((unhide HK).below hbl)
      clear hbl H3
      (try go_wp2_with fail)
      refine hKk.out _ _ ?_ (fun hHeld => ?_)
      · (try dsimp only)
        exact ⟨(unhide HK).cb, (unhide HK).c1, (unhide HK).c2⟩
      clear hKk Kk
      (try simp only [List.setIfInBounds_toArray, List.set_cons_zero, List.set_cons_succ])
      refine anyH_at #[true, true, true, true, false] (by kernel_rfl) ?_
      refine wpAnyH_take (i := 4) (oi := { dst := some 7, op := _, type := _, pos := _, after := _, guard := _ }) (v := ?vv4r2) rfl (by kernel_rfl) (by kernel_rfl) (by kernel_rfl) (fun _ _ _ h => h) (Or.inl ⟨by rfl, ?hy4r2⟩) (by assumption) ?rest4r2
      case hy4r2 => ((intro w hSw; (try dsimp only at hSw); go_simp) <;> with_reducible rfl)
      case rest4r2 =>
        (try simp only [Act.put, List.setIfInBounds_toArray, List.set_cons_zero, List.set_cons_succ])
        refine anyH_at #[true, true, true, true, true] (by kernel_rfl) ?_
        refine wpAnyH_done (by kernel_rfl) ?_ _
        clear hHeld
        have c1' := (unhide HK).c1
        go_wp2_with fail
        refine (uint_any _ _ _ _ _ (unhide HK).n1).mono ?_
        rw [unhide HL]
        rintro _ w5 ⟨rfl, hbl⟩
        have HK := hide ((unhide HK).below hbl)
        clear hbl c1'
        go_wp2_with fail
        have HK := hide ((unhide HK).below ((Below.refl _ _).drew))
        refine wp_region_held_drew (S := fun w' => w'.cell? ⟨w1.heap.size, 0, none⟩ = some (.slice a1 n1 c1) ∧ Room (w.heap.size + 1 + 1) 1 w') (by kernel_rfl) ?_ (fun hHeld => ?_)
        · (try dsimp only)
          exact ⟨(unhide HK).c1, room1 (unhide HK).cr (unhide HK).fr⟩
        refine anyH_at #[false, false, false, false] (by kernel_rfl) ?_
        refine wpAnyH_take (i := 0) (oi := { dst := some 30, op := _, type := _, pos := _, after := _, guard := _ }) (v := ?vv0r4) rfl (by kernel_rfl) (by kernel_rfl) (by kernel_rfl) (fun _ _ _ h => h) (Or.inl ⟨by rfl, ?hy0r4⟩) (by assumption) ?rest0r4
        case hy0r4 => ((intro w hSw; (try dsimp only at hSw); go_simp) <;> with_reducible rfl)
        case rest0r4 =>
          (try simp only [Act.put, List.setIfInBounds_toArray, List.set_cons_zero, List.set_cons_succ])
          refine anyH_at #[true, false, false, false] (by kernel_rfl) ?_
          refine wpAnyH_ready (rs := [1]) (by kernel_rfl) (by simp) ?_
          refine AllReadyH.cons (o := { dst := some 31, op := _, type := _, pos := _, after := _, guard := _ }) rfl (fun Kk hKk => ?_) AllReadyH.nil
          go_simp
          refine (refOf_1 _).mono ?_
          rintro _ w8 ⟨s8, rfl, hN8, hbl⟩
          obtain ⟨a8, n8, c8, rfl⟩ := hN8.slice
          have H8 := hide hN8
          have HK := hide ((unhide HK).below hbl)
          clear hbl hN8
          (try go_wp2_with fail)
          refine hKk.out _ _ ?_ (fun hHeld => ?_)
          · (try dsimp only)
            exact ⟨(unhide HK).c1, room1 (unhide HK).cr (unhide HK).fr⟩
          clear hKk Kk
          (try simp only [List.setIfInBounds_toArray, List.set_cons_zero, List.set_cons_succ])
          refine anyH_at #[true, true, false, false] (by kernel_rfl) ?_
          refine wpAnyH_ready (rs := [2]) (by kernel_rfl) (by simp) ?_
          refine AllReadyH.cons (o := { dst := some 32, op := _, type := _, pos := _, after := _, guard := _ }) rfl (fun Kk hKk => ?_) AllReadyH.nil
          go_simp
          refine (refAdd_any _ _ _ _ _ _ _ _ _ (unhide HK).n1 (unhide H8) (Nat.le_trans ((unhide HK).n1.short (lt_pw 300 (unhide HQ) (by omega))) (by omega)) (Nat.le_trans ((unhide H8).short (k := 1) (by rw [pw_1]; omega)) (by omega))).mono ?_
          rintro _ w9 ⟨s9, rfl, hN9, hbl⟩
          obtain ⟨a9, n9, c9, rfl⟩ := hN9.slice
          have H9 := hide hN9
          have HK := hide ((unhide HK).below hbl)
          clear hbl hN9
          (try go_wp2_with fail)
          refine hKk.out _ _ ?_ (fun hHeld => ?_)
          · (try dsimp only)
            exact ⟨(unhide HK).c1, room1 (unhide HK).cr (unhide HK).fr⟩
          clear hKk Kk
          (try simp only [List.setIfInBounds_toArray, List.set_cons_zero, List.set_cons_succ])
          refine anyH_at #[true, true, true, false] (by kernel_rfl) ?_
          refine wpAnyH_ready (rs := [3]) (by kernel_rfl) (by simp) ?_
          refine AllReadyH.cons (o := { dst := none, op := _, type := _, pos := _, after := _, guard := _ }) rfl (fun Kk hKk => ?_) AllReadyH.nil
          obtain ⟨⟨v0, c0⟩, f0⟩ := hHeld.2 0 (by omega)
          go_simp
          refine hKk.out _ _ ?_ (fun hHeld => ?_)
          · (try dsimp only)
            exact ⟨keep_set _ _ _ (unhide HNE) hHeld.1, hHeld.2.set _ _⟩
          clear hKk Kk
          (try simp only [List.setIfInBounds_toArray, List.set_cons_zero, List.set_cons_succ])
          refine anyH_at #[true, true, true, true] (by kernel_rfl) ?_
          refine wpAnyH_done (by kernel_rfl) ?_ _
          clear hHeld
          have cr := (unhide HK).cr
          go_wp2_with fail
          refine bodyPost_ret (v := .agg #[.slice a9 n9 c9]) (by simp [results, Try.results66, go_sem, cr]) rfl ⟨_, rfl, (unhide H9).store cr _, ?_⟩
          exact (unhide HK).bel.setCell (by simp; omega) _

set_option maxRecDepth 100000 in
set_option maxHeartbeats 2000000 in
theorem quot_e {L : Int} (a b : Option Addr) (n c m d x y : Nat) (w : World) (hx : IsNat w (.slice a n c) x) (hy : IsNat w (.slice b m d) y) (hy0 : y ≠ 0) (bx : x < pw 300) (hby : y < pw 300) (hv : cmpN (x % y * 2 ^ 1) y = 0) (hl : lo (x / y) = L) (km : L.tmod 2 = 0) :
    Calls Try.prog 66 #[.agg #[.slice a n c], .agg #[.slice b m d]] w fun e w' => ∃ s', e = .returned (.agg #[s']) ∧ IsNat w' s' (x / y) ∧ Below w.heap.size w w' := by
  have HV := hide hv; have HR := hide (Nat.lt_of_le_of_lt (Nat.mod_le x y) bx); have HX := hide hx; have HY := hide hy
  have HL := hide hl
  clear hl
  clear hv hx hy
  go_enter Try.func66, Try.ntmps66
  go_wp2_with fail
  refine (refDiv_any a b n c m d x y _ ((unhide HX).below (balloc (below2 _ _ _) _)) ((unhide HY).below (balloc (below2 _ _ _) _)) hy0 bx hby).mono ?_
  rintro _ w1 ⟨s1, s2, rfl, hN1, hN2, hb⟩
  obtain ⟨a1, n1, c1, rfl⟩ := hN1.slice
  obtain ⟨a2, n2, c2, rfl⟩ := hN2.slice
  have hz : w.heap.size + 1 + 1 + 1 ≤ w1.heap.size := by have := hb.size; simp at this; omega
  have HK : Hid (QSt w.heap.size w1.heap.size w (.slice b m d) (.slice a1 n1 c1) (.slice a2 n2 c2) y (x / y) (x % y) ((w1.alloc (.cells #[.slice a1 n1 c1] 50)).alloc (.cells #[.slice a2 n2 c2] 50))) := by
    have hb2 := below2 w1 (.cells #[.slice a1 n1 c1] 50) (.cells #[.slice a2 n2 c2] 50)
    have ha : Below w.heap.size w (((w.alloc (.cells #[.slice a n c] 50)).alloc (.cells #[.slice b m d] 50)).alloc (.cells #[.slice none 0 0] 50)) := balloc (below2 _ _ _) _
    have hB := bthen hb hb2
    exact { cb := by rw [hB.cell (by simp)]; simp [go_sem], c1 := by simp [go_sem], c2 := by simp [go_sem], cr := by rw [hB.cell (by simp)]; simp [go_sem], fr := by rw [hB.frozen (by simp)]; simp [go_sem],
             nb := ((unhide HY).below ha).below hB, n1 := hN1.below hb2, n2 := hN2.below hb2, bel := bthen ha hB }
  clear hb hN1 hN2 HX HY
  go_wp2_with fail
  have HK := hide ((unhide HK).below ((Below.refl _ _).drew))
  refine wp_region_held_drew (S := fun w' => w'.cell? ⟨w.heap.size + 1, 0, none⟩ = some (.slice b m d) ∧ w'.cell? ⟨w1.heap.size, 0, none⟩ = some (.slice a1 n1 c1) ∧ w'.cell? ⟨w1.heap.size + 1, 0, none⟩ = some (.slice a2 n2 c2)) (by kernel_rfl) ?_ (fun hHeld => ?_)
  · (try dsimp only)
    exact ⟨(unhide HK).cb, (unhide HK).c1, (unhide HK).c2⟩
  refine anyH_at #[false, false, false, false, false] (by kernel_rfl) ?_
  refine wpAnyH_take (i := 0) (oi := { dst := some 14, op := _, type := _, pos := _, after := _, guard := _ }) (v := ?vv0r2) rfl (by kernel_rfl) (by kernel_rfl) (by kernel_rfl) (fun _ _ _ h => h) (Or.inl ⟨by rfl, ?hy0r2⟩) (by assumption) ?rest0r2
  case hy0r2 => ((intro w hSw; (try dsimp only at hSw); go_simp) <;> with_reducible rfl)
  case rest0r2 =>
    (try simp only [Act.put, List.setIfInBounds_toArray, List.set_cons_zero, List.set_cons_succ])
    refine anyH_at #[true, false, false, false, false] (by kernel_rfl) ?_
    refine wpAnyH_take (i := 2) (oi := { dst := some 16, op := _, type := _, pos := _, after := _, guard := _ }) (v := ?vv2r2) rfl (by kernel_rfl) (by kernel_rfl) (by kernel_rfl) (fun _ _ _ h => h) (Or.inl ⟨by rfl, ?hy2r2⟩) (by assumption) ?rest2r2
    case hy2r2 => ((intro w hSw; (try dsimp only at hSw); go_simp) <;> with_reducible rfl)
    case rest2r2 =>
      (try simp only [Act.put, List.setIfInBounds_toArray, List.set_cons_zero, List.set_cons_succ])
      refine anyH_at #[true, false, true, false, false] (by kernel_rfl) ?_
      refine wpAnyH_ready (rs := [1]) (by kernel_rfl) (by simp) ?_
      refine AllReadyH.cons (o := { dst := some 15, op := _, type := _, pos := _, after := _, guard := _ }) rfl (fun Kk hKk => ?_) AllReadyH.nil
      go_simp
      refine (shl_one _ _ _ _ _ (unhide HK).n2 (Nat.le_trans ((unhide HK).n2.short (lt_pw 300 (unhide HR) (by omega))) (by omega))).mono ?_
      rintro _ w3 ⟨s3, rfl, hN3, hbl⟩
      obtain ⟨a3, n3, c3, rfl⟩ := hN3.slice
      have H3 := hide hN3
      have HK := hide ((unhide HK).below hbl)
      clear hbl hN3
      (try go_wp2_with fail)
      refine hKk.out _ _ ?_ (fun hHeld => ?_)
      · (try dsimp only)
        exact ⟨(unhide HK).cb, (unhide HK).c1, (unhide HK).c2⟩
      clear hKk Kk
      (try simp only [List.setIfInBounds_toArray, List.set_cons_zero, List.set_cons_succ])
      refine anyH_at #[true, true, true, false, false] (by kernel_rfl) ?_
      refine wpAnyH_ready (rs := [3]) (by kernel_rfl) (by simp) ?_
      refine AllReadyH.cons (o := { dst := some 17, op := _, type := _, pos := _, after := _, guard := _ }) rfl (fun Kk hKk => ?_) AllReadyH.nil
      go_simp
      refine (refCmp_any _ _ _ _ _ _ _ _ _ (unhide H3) (unhide HK).nb).mono ?_
      rw [unhide HV]
      rintro _ w4 ⟨rfl, hbl⟩
      have HK := hide ((unhide HK).below hbl)
      clear hbl H3
      (try go_wp2_with fail)
      refine hKk.out _ _ ?_ (fun hHeld => ?_)
      · (try dsimp only)
        exact ⟨(unhide HK).cb, (unhide HK).c1, (unhide HK).c2⟩
      clear hKk Kk
      (try simp only [List.setIfInBounds_toArray, List.set_cons_zero, List.set_cons_succ])
      refine anyH_at #[true, true, true, true, false] (by kernel_rfl) ?_
      refine wpAnyH_take (i := 4) (oi := { dst := some 7, op := _, type := _, pos := _, after := _, guard := _ }) (v := ?vv4r2) rfl (by kernel_rfl) (by kernel_rfl) (by kernel_rfl) (fun _ _ _ h => h) (Or.inl ⟨by rfl, ?hy4r2⟩) (by assumption) ?rest4r2
      case hy4r2 => ((intro w hSw; (try dsimp only at hSw); go_simp) <;> with_reducible rfl)
      case rest4r2 =>
        (try simp only [Act.put, List.setIfInBounds_toArray, List.set_cons_zero, List.set_cons_succ])
        refine anyH_at #[true, true, true, true, true] (by kernel_rfl) ?_
        refine wpAnyH_done (by kernel_rfl) ?_ _
        clear hHeld
        have c1' := (unhide HK).c1
        go_wp2_with fail
        refine (uint_any _ _ _ _ _ (unhide HK).n1).mono ?_
        rw [unhide HL]
        rintro _ w5 ⟨rfl, hbl⟩
        have HK := hide ((unhide HK).below hbl)
        clear hbl c1'
        have cr := (unhide HK).cr
        have fr := (unhide HK).fr
        have c1' := (unhide HK).c1
        go_wp2_with fail
        refine bodyPost_ret (v := .agg #[.slice a1 n1 c1]) (by simp [results, Try.results66, go_sem, cr]) rfl ⟨_, rfl, (unhide HK).n1.store cr _, ?_⟩
        exact (unhide HK).bel.setCell (by simp; omega) _

theorem quot_any (a b : Option Addr) (n c m d x y : Nat) (w : World) (hx : IsNat w (.slice a n c) x) (hy : IsNat w (.slice b m d) y) (hy0 : y ≠ 0) (bx : x < pw 300) (hby : y < pw 300) :
    Calls Try.prog 66 #[.agg #[.slice a n c], .agg #[.slice b m d]] w fun e w' => ∃ s', e = .returned (.agg #[s']) ∧ IsNat w' s' (near x y) ∧ Below w.heap.size w w' := by
  have hl : lo (x / y) = ((x / y % 18446744073709551616 : Nat) : Int) := rfl
  unfold near
  by_cases h1 : y < 2 * (x % y)
  · rw [if_pos (Or.inl h1)]
    exact quot_g a b n c m d x y w hx hy hy0 bx hby (by unfold cmpN; rw [if_neg (by omega), if_pos (by omega)])
  · by_cases h2 : 2 * (x % y) = y
    · have hv : cmpN (x % y * 2 ^ 1) y = 0 := by unfold cmpN; rw [if_neg (by omega), if_neg (by omega)]
      by_cases h3 : x / y % 2 = 1
      · rw [if_pos (Or.inr ⟨h2, h3⟩)]
        refine quot_o a b n c m d x y w hx hy hy0 bx hby hv hl ?_
        rw [Int.tmod_eq_emod_of_nonneg (by omega)]
        omega
      · rw [if_neg (by omega)]
        refine quot_e a b n c m d x y w hx hy hy0 bx hby hv hl ?_
        rw [Int.tmod_eq_emod_of_nonneg (by omega)]
        omega
    · rw [if_neg (by omega)]
      exact quot_l a b n c m d x y w hx hy hy0 bx hby (by unfold cmpN; rw [if_pos (by omega)])

end Go.Proofs.Ytcgnlpamfhdiiaa
namespace Go.Proofs.Ytcgnlpamfhdiiaa
open Go.RowKit
open Go.Proofs.Ytcgnlpamfhdiiaa.W

set_option maxHeartbeats 400000 in
theorem refLow_any {w e f P Q b : Int} (h : Kd w e f P Q b) (W : World) :
    Calls Try.prog 51 #[.int .i64 w] W fun r W' => r = .returned (.int .i64 (1 - b - f)) ∧ Below W.heap.size W W' := by
  have k1 : IntKind.i64.wrap (1 - b) = 1 - b := i64_id (by rcases h with h | h <;> omega) (by rcases h with h | h <;> omega)
  have k2 : IntKind.i64.wrap (1 - b - f) = 1 - b - f := i64_id (by rcases h with h | h <;> omega) (by rcases h with h | h <;> omega)
  go_enter Try.func51, Try.ntmps51
  go_wp2_with fail
  refine (refB_any h _).mono ?_
  rintro _ w1 ⟨rfl, hb1⟩
  go_wp2_with fail
  refine (refF_any h _).mono ?_
  rintro _ w2 ⟨rfl, hb2⟩
  go_wp2_with fail
  go_ret
  exact ⟨rfl, bthen hb1 hb2⟩

theorem shl_int (a : Option Addr) (n c x : Nat) (s : Int) (w : World) (hx : IsNat w (.slice a n c) x) (hn : n ≤ 1000) (h0 : 0 ≤ s) (h1 : s ≤ 10000) :
    Calls Try.prog 65 #[.agg #[.slice a n c], .int .i64 s] w fun e w' => ∃ s', e = .returned (.agg #[s']) ∧ IsNat w' s' (x * 2 ^ s.toNat) ∧ Below w.heap.size w w' := by
  have := refShl_any a n c x s.toNat w hx hn (by omega)
  rw [show ((s.toNat : Nat) : Int) = s by omega] at this
  exact this

/-- Two numbers in variables. -/
structure TwoSt (N : Nat) (w : World) (sa sb : Value) (x y : Nat) (w' : World) : Prop where
  ca : w'.cell? ⟨N, 0, none⟩ = some sa
  cb : w'.cell? ⟨N + 1, 0, none⟩ = some sb
  na : IsNat w' sa x
  nb : IsNat w' sb y
  bel : Below w.heap.size w w'
theorem TwoSt.below {N : Nat} {w : World} {sa sb : Value} {x y : Nat} {w' w'' : World} (h : TwoSt N w sa sb x y w') (hb : Below w'.heap.size w' w'') : TwoSt N w sa sb x y w'' :=
  { ca := keep1 hb (lt_of_cell h.ca) h.ca, cb := keep1 hb (lt_of_cell h.cb) h.cb, na := h.na.below hb, nb := h.nb.below hb, bel := bthen h.bel hb }

set_option maxRecDepth 100000 in
set_option maxHeartbeats 1000000 in
theorem under_up (a b : Option Addr) (n c m d x y : Nat) (s : Int) (w : World) (hx : IsNat w (.slice a n c) x) (hy : IsNat w (.slice b m d) y) (bx : x < pw 300) (h0 : 0 ≤ s) (h2 : s ≤ 10000) :
    Calls Try.prog 52 #[.agg #[.slice a n c], .agg #[.slice b m d], .int .i64 s] w fun e w' => e = .returned (.bool (decide (cmpN (x * 2 ^ s.toNat) y < 0))) ∧ Below w.heap.size w w' := by
  have HA := hide bx; have HX := hide hx; have HY := hide hy
  clear hx hy
  go_enter Try.func52, Try.ntmps52
  go_wp2_with fail
  have HK : Hid (TwoSt w.heap.size w (.slice a n c) (.slice b m d) x y ((w.alloc (.cells #[.slice a n c] 50)).alloc (.cells #[.slice b m d] 50)).drew) :=
    { ca := by simp [go_sem], cb := by simp [go_sem], na := (unhide HX).below (below2 _ _ _).drew, nb := (unhide HY).below (below2 _ _ _).drew, bel := (below2 _ _ _).drew }
  clear HX HY
  refine wp_region_held_drew (S := fun w' => w'.cell? ⟨w.heap.size, 0, none⟩ = some (.slice a n c) ∧ w'.cell? ⟨w.heap.size + 1, 0, none⟩ = some (.slice b m d)) (by kernel_rfl) ?_ (fun hHeld => ?_)
  · (try dsimp only)
    exact ⟨(unhide HK).ca, (unhide HK).cb⟩
  refine anyH_at #[false, false, false, false, false, false, false] (by kernel_rfl) ?_
  refine wpAnyH_take (i := 0) (oi := { dst := some 9, op := _, type := _, pos := _, after := _, guard := _ }) (v := ?vv0u) rfl (by kernel_rfl) (by kernel_rfl) (by kernel_rfl) (fun _ _ _ h => h) (Or.inl ⟨by rfl, ?hy0u⟩) (by assumption) ?rest0u
  case hy0u => ((intro w hSw; (try dsimp only at hSw); go_simp) <;> with_reducible rfl)
  case rest0u =>
    (try simp only [Act.put, List.setIfInBounds_toArray, List.set_cons_zero, List.set_cons_succ])
    refine anyH_at #[true, false, false, false, false, false, false] (by kernel_rfl) ?_
    refine wpAnyH_take (i := 1) (oi := { dst := some 10, op := _, type := _, pos := _, after := _, guard := _ }) (v := ?vv1u) rfl (by kernel_rfl) (by kernel_rfl) (by kernel_rfl) (fun _ _ _ h => h) (Or.inl ⟨by rfl, ?hy1u⟩) (by assumption) ?rest1u
    case hy1u => ((intro w hSw; (try dsimp only at hSw); go_simp) <;> with_reducible rfl)
    case rest1u =>
      (try simp only [Act.put, List.setIfInBounds_toArray, List.set_cons_zero, List.set_cons_succ])
      refine anyH_at #[true, true, false, false, false, false, false] (by kernel_rfl) ?_
      refine wpAnyH_take (i := 3) (oi := { dst := some 12, op := _, type := _, pos := _, after := _, guard := _ }) (v := ?vv3u) rfl (by kernel_rfl) (by kernel_rfl) (by kernel_rfl) (fun _ _ _ h => h) (Or.inl ⟨by rfl, ?hy3u⟩) (by assumption) ?rest3u
      case hy3u => ((intro w hSw; (try dsimp only at hSw); go_simp) <;> with_reducible rfl)
      case rest3u =>
        (try simp only [Act.put, List.setIfInBounds_toArray, List.set_cons_zero, List.set_cons_succ])
        refine anyH_at #[true, true, false, true, false, false, false] (by kernel_rfl) ?_
        refine wpAnyH_ready (rs := [2]) (by kernel_rfl) (by simp) ?_
        refine AllReadyH.cons (o := { dst := some 11, op := _, type := _, pos := _, after := _, guard := _ }) rfl (fun Kk hKk => ?_) AllReadyH.nil
        go_simp
        refine (shl_int _ _ _ _ _ _ (unhide HK).na (Nat.le_trans ((unhide HK).na.short (unhide HA)) (by omega)) (by omega) (by omega)).mono ?_
        rintro _ w3 ⟨s3, rfl, hN3, hbl⟩
        obtain ⟨a3, n3, c3, rfl⟩ := hN3.slice
        have H3 := hide hN3
        have HK := hide ((unhide HK).below hbl)
        clear hbl hN3
        (try go_wp2_with fail)
        refine hKk.out _ _ ?_ (fun hHeld => ?_)
        · (try dsimp only)
          exact ⟨(unhide HK).ca, (unhide HK).cb⟩
        clear hKk Kk
        (try simp only [List.setIfInBounds_toArray, List.set_cons_zero, List.set_cons_succ])
        refine anyH_at #[true, true, true, true, false, false, false] (by kernel_rfl) ?_
        refine wpAnyH_ready (rs := [4]) (by kernel_rfl) (by simp) ?_
        refine AllReadyH.cons (o := { dst := some 13, op := _, type := _, pos := _, after := _, guard := _ }) rfl (fun Kk hKk => ?_) AllReadyH.nil
        go_simp
        refine (refCmp_any _ _ _ _ _ _ _ _ _ (unhide H3) (unhide HK).nb).mono ?_
        rintro _ w4 ⟨rfl, hbl⟩
        have HK := hide ((unhide HK).below hbl)
        clear hbl
        (try go_wp2_with fail)
        refine hKk.out _ _ ?_ (fun hHeld => ?_)
        · (try dsimp only)
          exact ⟨(unhide HK).ca, (unhide HK).cb⟩
        clear hKk Kk
        (try simp only [List.setIfInBounds_toArray, List.set_cons_zero, List.set_cons_succ])
        refine anyH_at #[true, true, true, true, true, false, false] (by kernel_rfl) ?_
        refine wpAnyH_take (i := 5) (oi := { dst := some 14, op := _, type := _, pos := _, after := _, guard := _ }) (v := ?vv5u) rfl (by kernel_rfl) (by kernel_rfl) (by kernel_rfl) (fun _ _ _ h => h) (Or.inl ⟨by rfl, ?hy5u⟩) (by assumption) ?rest5u
        case hy5u => ((intro w hSw; (try dsimp only at hSw); go_simp) <;> with_reducible rfl)
        case rest5u =>
          (try simp only [Act.put, List.setIfInBounds_toArray, List.set_cons_zero, List.set_cons_succ])
          refine anyH_at #[true, true, true, true, true, true, false] (by kernel_rfl) ?_
          refine wpAnyH_take (i := 6) (oi := { dst := some 6, op := _, type := _, pos := _, after := _, guard := _ }) (v := ?vv6u) rfl (by kernel_rfl) (by kernel_rfl) (by kernel_rfl) (fun _ _ _ h => h) (Or.inl ⟨by rfl, ?hy6u⟩) (by assumption) ?rest6u
          case hy6u => ((intro w hSw; (try dsimp only at hSw); go_simp) <;> with_reducible rfl)
          case rest6u =>
            (try simp only [Act.put, List.setIfInBounds_toArray, List.set_cons_zero, List.set_cons_succ])
            refine anyH_at #[true, true, true, true, true, true, true] (by kernel_rfl) ?_
            refine wpAnyH_done (by kernel_rfl) ?_ _
            clear hHeld
            go_wp2
            go_ret
            exact ⟨rfl, (unhide HK).bel⟩

set_option maxRecDepth 100000 in
set_option maxHeartbeats 1000000 in
theorem under_dn (a b : Option Addr) (n c m d x y : Nat) (s : Int) (w : World) (hx : IsNat w (.slice a n c) x) (hy : IsNat w (.slice b m d) y) (hby : y < pw 300) (h0 : ¬ 0 ≤ s) (h1 : -10000 ≤ s) (kn : IntKind.i64.wrap (-s) = -s) :
    Calls Try.prog 52 #[.agg #[.slice a n c], .agg #[.slice b m d], .int .i64 s] w fun e w' => e = .returned (.bool (decide (cmpN x (y * 2 ^ (-s).toNat) < 0))) ∧ Below w.heap.size w w' := by
  have HB := hide hby; have HX := hide hx; have HY := hide hy
  clear hx hy
  go_enter Try.func52, Try.ntmps52
  go_wp2_with fail
  have HK : Hid (TwoSt w.heap.size w (.slice a n c) (.slice b m d) x y ((w.alloc (.cells #[.slice a n c] 50)).alloc (.cells #[.slice b m d] 50)).drew) :=
    { ca := by simp [go_sem], cb := by simp [go_sem], na := (unhide HX).below (below2 _ _ _).drew, nb := (unhide HY).below (below2 _ _ _).drew, bel := (below2 _ _ _).drew }
  clear HX HY
  refine wp_region_held_drew (S := fun w' => w'.cell? ⟨w.heap.size, 0, none⟩ = some (.slice a n c) ∧ w'.cell? ⟨w.heap.size + 1, 0, none⟩ = some (.slice b m d)) (by kernel_rfl) ?_ (fun hHeld => ?_)
  · (try dsimp only)
    exact ⟨(unhide HK).ca, (unhide HK).cb⟩
  refine anyH_at #[false, false, false, false, false, false, false, false] (by kernel_rfl) ?_
  refine wpAnyH_take (i := 0) (oi := { dst := some 15, op := _, type := _, pos := _, after := _, guard := _ }) (v := ?vv0u) rfl (by kernel_rfl) (by kernel_rfl) (by kernel_rfl) (fun _ _ _ h => h) (Or.inl ⟨by rfl, ?hy0u⟩) (by assumption) ?rest0u
  case hy0u => ((intro w hSw; (try dsimp only at hSw); go_simp) <;> with_reducible rfl)
  case rest0u =>
    (try simp only [Act.put, List.setIfInBounds_toArray, List.set_cons_zero, List.set_cons_succ])
    refine anyH_at #[true, false, false, false, false, false, false, false] (by kernel_rfl) ?_
    refine wpAnyH_take (i := 1) (oi := { dst := some 16, op := _, type := _, pos := _, after := _, guard := _ }) (v := ?vv1u) rfl (by kernel_rfl) (by kernel_rfl) (by kernel_rfl) (fun _ _ _ h => h) (Or.inl ⟨by rfl, ?hy1u⟩) (by assumption) ?rest1u
    case hy1u => ((intro w hSw; (try dsimp only at hSw); go_simp) <;> with_reducible rfl)
    case rest1u =>
      (try simp only [Act.put, List.setIfInBounds_toArray, List.set_cons_zero, List.set_cons_succ])
      refine anyH_at #[true, true, false, false, false, false, false, false] (by kernel_rfl) ?_
      refine wpAnyH_take (i := 2) (oi := { dst := some 17, op := _, type := _, pos := _, after := _, guard := _ }) (v := ?vv2u) rfl (by kernel_rfl) (by kernel_rfl) (by kernel_rfl) (fun _ _ _ h => h) (Or.inl ⟨by rfl, ?hy2u⟩) (by assumption) ?rest2u
      case hy2u => ((intro w hSw; (try dsimp only at hSw); go_simp) <;> with_reducible rfl)
      case rest2u =>
        (try simp only [Act.put, List.setIfInBounds_toArray, List.set_cons_zero, List.set_cons_succ])
        refine anyH_at #[true, true, true, false, false, false, false, false] (by kernel_rfl) ?_
        refine wpAnyH_take (i := 3) (oi := { dst := some 18, op := _, type := _, pos := _, after := _, guard := _ }) (v := ?vv3u) rfl (by kernel_rfl) (by kernel_rfl) (by kernel_rfl) (fun _ _ _ h => h) (Or.inl ⟨by rfl, ?hy3u⟩) (by assumption) ?rest3u
        case hy3u => ((intro w hSw; (try dsimp only at hSw); go_simp) <;> with_reducible rfl)
        case rest3u =>
          (try simp only [Act.put, List.setIfInBounds_toArray, List.set_cons_zero, List.set_cons_succ])
          refine anyH_at #[true, true, true, true, false, false, false, false] (by kernel_rfl) ?_
          refine wpAnyH_ready (rs := [4]) (by kernel_rfl) (by simp) ?_
          refine AllReadyH.cons (o := { dst := some 19, op := _, type := _, pos := _, after := _, guard := _ }) rfl (fun Kk hKk => ?_) AllReadyH.nil
          go_simp
          refine (shl_int _ _ _ _ _ _ (unhide HK).nb (Nat.le_trans ((unhide HK).nb.short (unhide HB)) (by omega)) (by omega) (by omega)).mono ?_
          rintro _ w3 ⟨s3, rfl, hN3, hbl⟩
          obtain ⟨a3, n3, c3, rfl⟩ := hN3.slice
          have H3 := hide hN3
          have HK := hide ((unhide HK).below hbl)
          clear hbl hN3
          (try go_wp2_with fail)
          refine hKk.out _ _ ?_ (fun hHeld => ?_)
          · (try dsimp only)
            exact ⟨(unhide HK).ca, (unhide HK).cb⟩
          clear hKk Kk
          (try simp only [List.setIfInBounds_toArray, List.set_cons_zero, List.set_cons_succ])
          refine anyH_at #[true, true, true, true, true, false, false, false] (by kernel_rfl) ?_
          refine wpAnyH_ready (rs := [5]) (by kernel_rfl) (by simp) ?_
          refine AllReadyH.cons (o := { dst := some 20, op := _, type := _, pos := _, after := _, guard := _ }) rfl (fun Kk hKk => ?_) AllReadyH.nil
          go_simp
          refine (refCmp_any _ _ _ _ _ _ _ _ _ (unhide HK).na (unhide H3)).mono ?_
          rintro _ w4 ⟨rfl, hbl⟩
          have HK := hide ((unhide HK).below hbl)
          clear hbl
          (try go_wp2_with fail)
          refine hKk.out _ _ ?_ (fun hHeld => ?_)
          · (try dsimp only)
            exact ⟨(unhide HK).ca, (unhide HK).cb⟩
          clear hKk Kk
          (try simp only [List.setIfInBounds_toArray, List.set_cons_zero, List.set_cons_succ])
          refine anyH_at #[true, true, true, true, true, true, false, false] (by kernel_rfl) ?_
          refine wpAnyH_take (i := 6) (oi := { dst := some 21, op := _, type := _, pos := _, after := _, guard := _ }) (v := ?vv6u) rfl (by kernel_rfl) (by kernel_rfl) (by kernel_rfl) (fun _ _ _ h => h) (Or.inl ⟨by rfl, ?hy6u⟩) (by assumption) ?rest6u
          case hy6u => ((intro w hSw; (try dsimp only at hSw); go_simp) <;> with_reducible rfl)
          case rest6u =>
            (try simp only [Act.put, List.setIfInBounds_toArray, List.set_cons_zero, List.set_cons_succ])
            refine anyH_at #[true, true, true, true, true, true, true, false] (by kernel_rfl) ?_
            refine wpAnyH_take (i := 7) (oi := { dst := some 6, op := _, type := _, pos := _, after := _, guard := _ }) (v := ?vv7u) rfl (by kernel_rfl) (by kernel_rfl) (by kernel_rfl) (fun _ _ _ h => h) (Or.inl ⟨by rfl, ?hy7u⟩) (by assumption) ?rest7u
            case hy7u => ((intro w hSw; (try dsimp only at hSw); go_simp) <;> with_reducible rfl)
            case rest7u =>
              (try simp only [Act.put, List.setIfInBounds_toArray, List.set_cons_zero, List.set_cons_succ])
              refine anyH_at #[true, true, true, true, true, true, true, true] (by kernel_rfl) ?_
              refine wpAnyH_done (by kernel_rfl) ?_ _
              clear hHeld
              go_wp2
              go_ret
              exact ⟨rfl, (unhide HK).bel⟩

set_option maxRecDepth 100000 in
set_option maxHeartbeats 1000000 in
theorem grain_up (a b : Option Addr) (n c m d x y : Nat) (s : Int) (w : World) (hx : IsNat w (.slice a n c) x) (hy : IsNat w (.slice b m d) y) (bx : x < pw 300) (bz : x * 2 ^ s.toNat < pw 300) (hy0 : y ≠ 0) (hby : y < pw 300) (h0 : 0 ≤ s) (h2 : s ≤ 10000) :
    Calls Try.prog 53 #[.agg #[.slice a n c], .agg #[.slice b m d], .int .i64 s] w fun e w' => ∃ s', e = .returned (.agg #[s']) ∧ IsNat w' s' (near (x * 2 ^ s.toNat) y) ∧ Below w.heap.size w w' := by
  have HA := hide bx; have HX := hide hx; have HY := hide hy
  clear hx hy
  go_enter Try.func53, Try.ntmps53
  go_wp2_with fail
  have hb := (balloc (below2 w (.cells #[.slice a n c] 50) (.cells #[.slice b m d] 50)) (.cells #[.slice none 0 0] 50)).drew
  have HK : Hid (TwoSt w.heap.size w (.slice a n c) (.slice b m d) x y (((w.alloc (.cells #[.slice a n c] 50)).alloc (.cells #[.slice b m d] 50)).alloc (.cells #[.slice none 0 0] 50)).drew) :=
    { ca := by simp [go_sem], cb := by simp [go_sem], na := (unhide HX).below hb, nb := (unhide HY).below hb, bel := hb }
  have HM : Hid ((((w.alloc (.cells #[.slice a n c] 50)).alloc (.cells #[.slice b m d] 50)).alloc (.cells #[.slice none 0 0] 50)).drew.cell? ⟨w.heap.size + 1 + 1, 0, none⟩ = some (.slice none 0 0) ∧ (((w.alloc (.cells #[.slice a n c] 50)).alloc (.cells #[.slice b m d] 50)).alloc (.cells #[.slice none 0 0] 50)).drew.frozen? ⟨w.heap.size + 1 + 1, 0, none⟩ = false) := ⟨by simp [go_sem], by simp [go_sem]⟩
  clear HX HY hb
  refine wp_region_held_drew (S := fun w' => w'.cell? ⟨w.heap.size, 0, none⟩ = some (.slice a n c) ∧ w'.cell? ⟨w.heap.size + 1, 0, none⟩ = some (.slice b m d) ∧ Room (w.heap.size + 1 + 1) 1 w') (by kernel_rfl) ?_ (fun hHeld => ?_)
  · (try dsimp only)
    exact ⟨(unhide HK).ca, (unhide HK).cb, room1 (unhide HM).1 (unhide HM).2⟩
  refine anyH_at #[false, false, false, false, false, false] (by kernel_rfl) ?_
  refine wpAnyH_take (i := 0) (oi := { dst := some 9, op := _, type := _, pos := _, after := _, guard := _ }) (v := ?vv0g) rfl (by kernel_rfl) (by kernel_rfl) (by kernel_rfl) (fun _ _ _ h => h) (Or.inl ⟨by rfl, ?hy0g⟩) (by assumption) ?rest0g
  case hy0g => ((intro w hSw; (try dsimp only at hSw); go_simp) <;> with_reducible rfl)
  case rest0g =>
    (try simp only [Act.put, List.setIfInBounds_toArray, List.set_cons_zero, List.set_cons_succ])
    refine anyH_at #[true, false, false, false, false, false] (by kernel_rfl) ?_
    refine wpAnyH_take (i := 1) (oi := { dst := some 10, op := _, type := _, pos := _, after := _, guard := _ }) (v := ?vv1g) rfl (by kernel_rfl) (by kernel_rfl) (by kernel_rfl) (fun _ _ _ h => h) (Or.inl ⟨by rfl, ?hy1g⟩) (by assumption) ?rest1g
    case hy1g => ((intro w hSw; (try dsimp only at hSw); go_simp) <;> with_reducible rfl)
    case rest1g =>
      (try simp only [Act.put, List.setIfInBounds_toArray, List.set_cons_zero, List.set_cons_succ])
      refine anyH_at #[true, true, false, false, false, false] (by kernel_rfl) ?_
      refine wpAnyH_take (i := 3) (oi := { dst := some 12, op := _, type := _, pos := _, after := _, guard := _ }) (v := ?vv3g) rfl (by kernel_rfl) (by kernel_rfl) (by kernel_rfl) (fun _ _ _ h => h) (Or.inl ⟨by rfl, ?hy3g⟩) (by assumption) ?rest3g
      case hy3g => ((intro w hSw; (try dsimp only at hSw); go_simp) <;> with_reducible rfl)
      case rest3g =>
        (try simp only [Act.put, List.setIfInBounds_toArray, List.set_cons_zero, List.set_cons_succ])
        refine anyH_at #[true, true, false, true, false, false] (by kernel_rfl) ?_
        refine wpAnyH_ready (rs := [2]) (by kernel_rfl) (by simp) ?_
        refine AllReadyH.cons (o := { dst := some 11, op := _, type := _, pos := _, after := _, guard := _ }) rfl (fun Kk hKk => ?_) AllReadyH.nil
        go_simp
        refine (shl_int _ _ _ _ _ _ (unhide HK).na (Nat.le_trans ((unhide HK).na.short (unhide HA)) (by omega)) (by omega) (by omega)).mono ?_
        rintro _ w3 ⟨s3, rfl, hN3, hbl⟩
        obtain ⟨a3, n3, c3, rfl⟩ := hN3.slice
        have H3 := hide hN3
        have HK := hide ((unhide HK).below hbl)
        have HM := hide (And.intro (keep1 hbl (lt_of_cell (unhide HM).1) (unhide HM).1) ((hbl.frozen (lt_of_cell (unhide HM).1)).trans (unhide HM).2))
        clear hbl hN3
        (try go_wp2_with fail)
        refine hKk.out _ _ ?_ (fun hHeld => ?_)
        · (try dsimp only)
          exact ⟨(unhide HK).ca, (unhide HK).cb, room1 (unhide HM).1 (unhide HM).2⟩
        clear hKk Kk
        (try simp only [List.setIfInBounds_toArray, List.set_cons_zero, List.set_cons_succ])
        refine anyH_at #[true, true, true, true, false, false] (by kernel_rfl) ?_
        refine wpAnyH_ready (rs := [4]) (by kernel_rfl) (by simp) ?_
        refine AllReadyH.cons (o := { dst := some 13, op := _, type := _, pos := _, after := _, guard := _ }) rfl (fun Kk hKk => ?_) AllReadyH.nil
        go_simp
        refine (quot_any _ _ _ _ _ _ _ _ _ (unhide H3) (unhide HK).nb hy0 bz hby).mono ?_
        rintro _ w4 ⟨s4, rfl, hN4, hbl⟩
        obtain ⟨a4, n4, c4, rfl⟩ := hN4.slice
        have H4 := hide hN4
        have HK := hide ((unhide HK).below hbl)
        have HM := hide (And.intro (keep1 hbl (lt_of_cell (unhide HM).1) (unhide HM).1) ((hbl.frozen (lt_of_cell (unhide HM).1)).trans (unhide HM).2))
        clear hbl hN4
        (try go_wp2_with fail)
        refine hKk.out _ _ ?_ (fun hHeld => ?_)
        · (try dsimp only)
          exact ⟨(unhide HK).ca, (unhide HK).cb, room1 (unhide HM).1 (unhide HM).2⟩
        clear hKk Kk
        (try simp only [List.setIfInBounds_toArray, List.set_cons_zero, List.set_cons_succ])
        refine anyH_at #[true, true, true, true, true, false] (by kernel_rfl) ?_
        refine wpAnyH_ready (rs := [5]) (by kernel_rfl) (by simp) ?_
        refine AllReadyH.cons (o := { dst := none, op := _, type := _, pos := _, after := _, guard := _ }) rfl (fun Kk hKk => ?_) AllReadyH.nil
        obtain ⟨⟨v0, c0⟩, f0⟩ := hHeld.2.2 0 (by omega)
        go_simp
        refine hKk.out _ _ ?_ (fun hHeld => ?_)
        · (try dsimp only)
          exact ⟨keep_set _ _ _ (by omega) hHeld.1, keep_set _ _ _ (by omega) hHeld.2.1, hHeld.2.2.set _ _⟩
        clear hKk Kk
        (try simp only [List.setIfInBounds_toArray, List.set_cons_zero, List.set_cons_succ])
        refine anyH_at #[true, true, true, true, true, true] (by kernel_rfl) ?_
        refine wpAnyH_done (by kernel_rfl) ?_ _
        clear hHeld
        have cr := (unhide HM).1
        go_wp2_with fail
        refine bodyPost_ret (v := .agg #[.slice a4 n4 c4]) (by simp [results, Try.results53, go_sem, cr]) rfl ⟨_, rfl, (unhide H4).store cr _, ?_⟩
        exact (unhide HK).bel.setCell (by simp; omega) _

set_option maxRecDepth 100000 in
set_option maxHeartbeats 1000000 in
theorem grain_dn (a b : Option Addr) (n c m d x y : Nat) (s : Int) (w : World) (hx : IsNat w (.slice a n c) x) (hy : IsNat w (.slice b m d) y) (bx : x < pw 300) (hy0 : y * 2 ^ (-s).toNat ≠ 0) (hby : y < pw 300) (bz : y * 2 ^ (-s).toNat < pw 300) (h0 : ¬ 0 ≤ s) (h1 : -10000 ≤ s) (kn : IntKind.i64.wrap (-s) = -s) :
    Calls Try.prog 53 #[.agg #[.slice a n c], .agg #[.slice b m d], .int .i64 s] w fun e w' => ∃ s', e = .returned (.agg #[s']) ∧ IsNat w' s' (near x (y * 2 ^ (-s).toNat)) ∧ Below w.heap.size w w' := by
  have HB := hide hby; have HX := hide hx; have HY := hide hy
  clear hx hy
  go_enter Try.func53, Try.ntmps53
  go_wp2_with fail
  have hb := (balloc (below2 w (.cells #[.slice a n c] 50) (.cells #[.slice b m d] 50)) (.cells #[.slice none 0 0] 50)).drew
  have HK : Hid (TwoSt w.heap.size w (.slice a n c) (.slice b m d) x y (((w.alloc (.cells #[.slice a n c] 50)).alloc (.cells #[.slice b m d] 50)).alloc (.cells #[.slice none 0 0] 50)).drew) :=
    { ca := by simp [go_sem], cb := by simp [go_sem], na := (unhide HX).below hb, nb := (unhide HY).below hb, bel := hb }
  have HM : Hid ((((w.alloc (.cells #[.slice a n c] 50)).alloc (.cells #[.slice b m d] 50)).alloc (.cells #[.slice none 0 0] 50)).drew.cell? ⟨w.heap.size + 1 + 1, 0, none⟩ = some (.slice none 0 0) ∧ (((w.alloc (.cells #[.slice a n c] 50)).alloc (.cells #[.slice b m d] 50)).alloc (.cells #[.slice none 0 0] 50)).drew.frozen? ⟨w.heap.size + 1 + 1, 0, none⟩ = false) := ⟨by simp [go_sem], by simp [go_sem]⟩
  clear HX HY hb
  refine wp_region_held_drew (S := fun w' => w'.cell? ⟨w.heap.size, 0, none⟩ = some (.slice a n c) ∧ w'.cell? ⟨w.heap.size + 1, 0, none⟩ = some (.slice b m d) ∧ Room (w.heap.size + 1 + 1) 1 w') (by kernel_rfl) ?_ (fun hHeld => ?_)
  · (try dsimp only)
    exact ⟨(unhide HK).ca, (unhide HK).cb, room1 (unhide HM).1 (unhide HM).2⟩
  refine anyH_at #[false, false, false, false, false, false, false] (by kernel_rfl) ?_
  refine wpAnyH_take (i := 0) (oi := { dst := some 14, op := _, type := _, pos := _, after := _, guard := _ }) (v := ?vv0g) rfl (by kernel_rfl) (by kernel_rfl) (by kernel_rfl) (fun _ _ _ h => h) (Or.inl ⟨by rfl, ?hy0g⟩) (by assumption) ?rest0g
  case hy0g => ((intro w hSw; (try dsimp only at hSw); go_simp) <;> with_reducible rfl)
  case rest0g =>
    (try simp only [Act.put, List.setIfInBounds_toArray, List.set_cons_zero, List.set_cons_succ])
    refine anyH_at #[true, false, false, false, false, false, false] (by kernel_rfl) ?_
    refine wpAnyH_take (i := 1) (oi := { dst := some 15, op := _, type := _, pos := _, after := _, guard := _ }) (v := ?vv1g) rfl (by kernel_rfl) (by kernel_rfl) (by kernel_rfl) (fun _ _ _ h => h) (Or.inl ⟨by rfl, ?hy1g⟩) (by assumption) ?rest1g
    case hy1g => ((intro w hSw; (try dsimp only at hSw); go_simp) <;> with_reducible rfl)
    case rest1g =>
      (try simp only [Act.put, List.setIfInBounds_toArray, List.set_cons_zero, List.set_cons_succ])
      refine anyH_at #[true, true, false, false, false, false, false] (by kernel_rfl) ?_
      refine wpAnyH_take (i := 2) (oi := { dst := some 16, op := _, type := _, pos := _, after := _, guard := _ }) (v := ?vv2g) rfl (by kernel_rfl) (by kernel_rfl) (by kernel_rfl) (fun _ _ _ h => h) (Or.inl ⟨by rfl, ?hy2g⟩) (by assumption) ?rest2g
      case hy2g => ((intro w hSw; (try dsimp only at hSw); go_simp) <;> with_reducible rfl)
      case rest2g =>
        (try simp only [Act.put, List.setIfInBounds_toArray, List.set_cons_zero, List.set_cons_succ])
        refine anyH_at #[true, true, true, false, false, false, false] (by kernel_rfl) ?_
        refine wpAnyH_take (i := 3) (oi := { dst := some 17, op := _, type := _, pos := _, after := _, guard := _ }) (v := ?vv3g) rfl (by kernel_rfl) (by kernel_rfl) (by kernel_rfl) (fun _ _ _ h => h) (Or.inl ⟨by rfl, ?hy3g⟩) (by assumption) ?rest3g
        case hy3g => ((intro w hSw; (try dsimp only at hSw); go_simp) <;> with_reducible rfl)
        case rest3g =>
          (try simp only [Act.put, List.setIfInBounds_toArray, List.set_cons_zero, List.set_cons_succ])
          refine anyH_at #[true, true, true, true, false, false, false] (by kernel_rfl) ?_
          refine wpAnyH_ready (rs := [4]) (by kernel_rfl) (by simp) ?_
          refine AllReadyH.cons (o := { dst := some 18, op := _, type := _, pos := _, after := _, guard := _ }) rfl (fun Kk hKk => ?_) AllReadyH.nil
          go_simp
          refine (shl_int _ _ _ _ _ _ (unhide HK).nb (Nat.le_trans ((unhide HK).nb.short (unhide HB)) (by omega)) (by omega) (by omega)).mono ?_
          rintro _ w3 ⟨s3, rfl, hN3, hbl⟩
          obtain ⟨a3, n3, c3, rfl⟩ := hN3.slice
          have H3 := hide hN3
          have HK := hide ((unhide HK).below hbl)
          have HM := hide (And.intro (keep1 hbl (lt_of_cell (unhide HM).1) (unhide HM).1) ((hbl.frozen (lt_of_cell (unhide HM).1)).trans (unhide HM).2))
          clear hbl hN3
          (try go_wp2_with fail)
          refine hKk.out _ _ ?_ (fun hHeld => ?_)
          · (try dsimp only)
            exact ⟨(unhide HK).ca, (unhide HK).cb, room1 (unhide HM).1 (unhide HM).2⟩
          clear hKk Kk
          (try simp only [List.setIfInBounds_toArray, List.set_cons_zero, List.set_cons_succ])
          refine anyH_at #[true, true, true, true, true, false, false] (by kernel_rfl) ?_
          refine wpAnyH_ready (rs := [5]) (by kernel_rfl) (by simp) ?_
          refine AllReadyH.cons (o := { dst := some 19, op := _, type := _, pos := _, after := _, guard := _ }) rfl (fun Kk hKk => ?_) AllReadyH.nil
          go_simp
          refine (quot_any _ _ _ _ _ _ _ _ _ (unhide HK).na (unhide H3) hy0 bx bz).mono ?_
          rintro _ w4 ⟨s4, rfl, hN4, hbl⟩
          obtain ⟨a4, n4, c4, rfl⟩ := hN4.slice
          have H4 := hide hN4
          have HK := hide ((unhide HK).below hbl)
          have HM := hide (And.intro (keep1 hbl (lt_of_cell (unhide HM).1) (unhide HM).1) ((hbl.frozen (lt_of_cell (unhide HM).1)).trans (unhide HM).2))
          clear hbl hN4
          (try go_wp2_with fail)
          refine hKk.out _ _ ?_ (fun hHeld => ?_)
          · (try dsimp only)
            exact ⟨(unhide HK).ca, (unhide HK).cb, room1 (unhide HM).1 (unhide HM).2⟩
          clear hKk Kk
          (try simp only [List.setIfInBounds_toArray, List.set_cons_zero, List.set_cons_succ])
          refine anyH_at #[true, true, true, true, true, true, false] (by kernel_rfl) ?_
          refine wpAnyH_ready (rs := [6]) (by kernel_rfl) (by simp) ?_
          refine AllReadyH.cons (o := { dst := none, op := _, type := _, pos := _, after := _, guard := _ }) rfl (fun Kk hKk => ?_) AllReadyH.nil
          obtain ⟨⟨v0, c0⟩, f0⟩ := hHeld.2.2 0 (by omega)
          go_simp
          refine hKk.out _ _ ?_ (fun hHeld => ?_)
          · (try dsimp only)
            exact ⟨keep_set _ _ _ (by omega) hHeld.1, keep_set _ _ _ (by omega) hHeld.2.1, hHeld.2.2.set _ _⟩
          clear hKk Kk
          (try simp only [List.setIfInBounds_toArray, List.set_cons_zero, List.set_cons_succ])
          refine anyH_at #[true, true, true, true, true, true, true] (by kernel_rfl) ?_
          refine wpAnyH_done (by kernel_rfl) ?_ _
          clear hHeld
          have cr := (unhide HM).1
          go_wp2_with fail
          refine bodyPost_ret (v := .agg #[.slice a4 n4 c4]) (by simp [results, Try.results53, go_sem, cr]) rfl ⟨_, rfl, (unhide H4).store cr _, ?_⟩
          exact (unhide HK).bel.setCell (by simp; omega) _

end Go.Proofs.Ytcgnlpamfhdiiaa
namespace Go.Proofs.Ytcgnlpamfhdiiaa
open Go.RowKit
open Go.Proofs.Ytcgnlpamfhdiiaa.W

set_option maxRecDepth 100000 in
set_option maxHeartbeats 8000000 in
theorem near_si {w f L Tp P k LA LB TF q : Int} {n : Bool} (a b : Option Addr) (na ca nb cb x y G : Nat) (w0 : World) (hx : IsNat w0 (.slice a na ca) x) (hy : IsNat w0 (.slice b nb cb) y)
    (HF : Hid (∀ W, Calls Try.prog 37 #[.int .i64 w] W fun r W' => r = .returned (.int .i64 f) ∧ Below W.heap.size W W')) (HL : Hid (∀ W, Calls Try.prog 51 #[.int .i64 w] W fun r W' => r = .returned (.int .i64 L) ∧ Below W.heap.size W W')) (HT : Hid (∀ W, Calls Try.prog 49 #[.int .i64 w] W fun r W' => r = .returned (.int .i64 Tp) ∧ Below W.heap.size W W')) (_ : Hid (∀ W, Calls Try.prog 36 #[.int .i64 f] W fun r W' => r = .returned (.int .u64 P) ∧ Below W.heap.size W W'))
    (hla : (Go.bitLen x : Int) = LA) (hlb : (Go.bitLen y : Int) = LB) 
    (r1 : LA ≤ 20000) (r2 : LB ≤ 20000) (r3 : -20000 ≤ k ∧ k ≤ 20000) (r4 : 0 ≤ f ∧ f ≤ 63) (r5 : -20000 ≤ L ∧ L ≤ 20000) (r6 : -20000 ≤ Tp ∧ Tp ≤ 20000)
    (htf : LA - LB + k - f = TF) (hq : (TF < L ∧ q = L) ∨ (TF = L ∧ q = L) ∨ (L < TF ∧ q = TF))
    (HU : L < TF → Hid (∀ W, IsNat W (.slice a na ca) x → IsNat W (.slice b nb cb) y → Calls Try.prog 52 #[.agg #[.slice a na ca], .agg #[.slice b nb cb], .int .i64 (k - q - f)] W fun r W' => r = .returned (.bool false) ∧ Below W.heap.size W W'))
    (HG : Hid (∀ W, IsNat W (.slice a na ca) x → IsNat W (.slice b nb cb) y → Calls Try.prog 53 #[.agg #[.slice a na ca], .agg #[.slice b nb cb], .int .i64 (k - q)] W fun r W' => ∃ s', r = .returned (.agg #[s']) ∧ IsNat W' s' G ∧ Below W.heap.size W W'))
    {LG VI : Int} (hlg' : (Go.bitLen G : Int) = LG) (d : ¬ f + 1 < LG) (z : decide (L + Tp - 2 < q) = true) (HI : Hid (∀ W, Calls Try.prog 24 #[.int .i64 w, .bool n] W fun r W' => r = .returned (.int .u64 VI) ∧ Below W.heap.size W W')) :
    Calls Try.prog 25 #[.int .i64 w, .bool n, .agg #[.slice a na ca], .agg #[.slice b nb cb], .int .i64 k] w0 fun r W' => r = .returned (.int .u64 VI) ∧ Below w0.heap.size w0 W' := by
  have k1 : IntKind.i64.wrap (LA - LB) = LA - LB := i64_id (by omega) (by omega)
  have k2 : IntKind.i64.wrap (LA - LB + k) = LA - LB + k := i64_id (by omega) (by omega)
  have k3 : IntKind.i64.wrap (LA - LB + k - f) = TF := by rw [← htf]; exact i64_id (by omega) (by omega)
  have rq1 : -200001 ≤ q ∧ q ≤ 200000 := by rcases hq with h | h | h <;> omega
  have k5 : IntKind.i64.wrap (k - q - f) = k - q - f := i64_id (by omega) (by omega)
  have k7 : IntKind.i64.wrap (k - q) = k - q := i64_id (by omega) (by omega)
  have k8 : IntKind.i64.wrap (f + 1) = f + 1 := i64_id (by omega) (by omega)
  have k9 : IntKind.i64.wrap (q + 1) = q + 1 := i64_id (by omega) (by omega)
  have k10 : IntKind.i64.wrap (L + Tp) = L + Tp := i64_id (by omega) (by omega)
  have k11 : IntKind.i64.wrap (L + Tp - 2) = L + Tp - 2 := i64_id (by omega) (by omega)
  have HLA := hide hla; have HLB := hide hlb
  clear hla hlb r1 r2 r3 r4 r5 r6 rq1 htf
  have HLG := hide hlg'
  clear hlg'
  
  have HX := hide hx; have HY := hide hy
  clear hx hy
  go_enter Try.func25, Try.ntmps25
  go_wp2_with fail
  have HK : Hid (TwoSt w0.heap.size w0 (.slice a na ca) (.slice b nb cb) x y ((w0.alloc (.cells #[.slice a na ca] 50)).alloc (.cells #[.slice b nb cb] 50))) :=
    { ca := by simp [go_sem], cb := by simp [go_sem], na := (unhide HX).below (below2 _ _ _), nb := (unhide HY).below (below2 _ _ _), bel := below2 _ _ _ }
  clear HX HY
  refine (unhide HF _).mono ?_
  rintro _ w1 ⟨rfl, hbl⟩
  have HK := hide ((unhide HK).below hbl)
  clear hbl
  
  go_wp2_with fail
  have HK := hide ((unhide HK).below ((Below.refl _ _).drew))
  refine wp_region_held_drew (S := fun w' => w'.cell? ⟨w0.heap.size, 0, none⟩ = some (.slice a na ca) ∧ w'.cell? ⟨w0.heap.size + 1, 0, none⟩ = some (.slice b nb cb)) (by kernel_rfl) ?_ (fun hHeld => ?_)
  · (try dsimp only)
    exact ⟨(unhide HK).ca, (unhide HK).cb⟩
  refine anyH_at #[false, false, false, false, false, false, false, false] (by kernel_rfl) ?_
  refine wpAnyH_take (i := 0) (oi := { dst := some 18, op := _, type := _, pos := _, after := _, guard := _ }) (v := ?vv0r2) rfl (by kernel_rfl) (by kernel_rfl) (by kernel_rfl) (fun _ _ _ h => h) (Or.inl ⟨by rfl, ?hy0r2⟩) (by assumption) ?rest0r2
  case hy0r2 => ((intro w hSw; (try dsimp only at hSw); go_simp) <;> with_reducible rfl)
  case rest0r2 =>
    (try simp only [Act.put, List.setIfInBounds_toArray, List.set_cons_zero, List.set_cons_succ])
    refine anyH_at #[true, false, false, false, false, false, false, false] (by kernel_rfl) ?_
    refine wpAnyH_take (i := 2) (oi := { dst := some 20, op := _, type := _, pos := _, after := _, guard := _ }) (v := ?vv2r2) rfl (by kernel_rfl) (by kernel_rfl) (by kernel_rfl) (fun _ _ _ h => h) (Or.inl ⟨by rfl, ?hy2r2⟩) (by assumption) ?rest2r2
    case hy2r2 => ((intro w hSw; (try dsimp only at hSw); go_simp) <;> with_reducible rfl)
    case rest2r2 =>
      (try simp only [Act.put, List.setIfInBounds_toArray, List.set_cons_zero, List.set_cons_succ])
      refine anyH_at #[true, false, true, false, false, false, false, false] (by kernel_rfl) ?_
      refine wpAnyH_take (i := 5) (oi := { dst := some 23, op := _, type := _, pos := _, after := _, guard := _ }) (v := ?vv5r2) rfl (by kernel_rfl) (by kernel_rfl) (by kernel_rfl) (fun _ _ _ h => h) (Or.inl ⟨by rfl, ?hy5r2⟩) (by assumption) ?rest5r2
      case hy5r2 => ((intro w hSw; (try dsimp only at hSw); go_simp) <;> with_reducible rfl)
      case rest5r2 =>
        (try simp only [Act.put, List.setIfInBounds_toArray, List.set_cons_zero, List.set_cons_succ])
        refine anyH_at #[true, false, true, false, false, true, false, false] (by kernel_rfl) ?_
        refine wpAnyH_ready (rs := [1]) (by kernel_rfl) (by simp) ?_
        refine AllReadyH.cons (o := { dst := some 19, op := _, type := _, pos := _, after := _, guard := _ }) rfl (fun Kk hKk => ?_) AllReadyH.nil
        go_simp
        refine (refLen_any _ _ _ _ _ (unhide HK).na).mono ?_
        rw [unhide HLA]
        rintro _ w2 ⟨rfl, hbl⟩
        have HK := hide ((unhide HK).below hbl)
        clear hbl
        (try go_wp2_with fail)
        refine hKk.out _ _ ?_ (fun hHeld => ?_)
        · (try dsimp only)
          exact ⟨(unhide HK).ca, (unhide HK).cb⟩
        clear hKk Kk
        (try simp only [List.setIfInBounds_toArray, List.set_cons_zero, List.set_cons_succ])
        refine anyH_at #[true, true, true, false, false, true, false, false] (by kernel_rfl) ?_
        refine wpAnyH_ready (rs := [3]) (by kernel_rfl) (by simp) ?_
        refine AllReadyH.cons (o := { dst := some 21, op := _, type := _, pos := _, after := _, guard := _ }) rfl (fun Kk hKk => ?_) AllReadyH.nil
        go_simp
        refine (refLen_any _ _ _ _ _ (unhide HK).nb).mono ?_
        rw [unhide HLB]
        rintro _ w3 ⟨rfl, hbl⟩
        have HK := hide ((unhide HK).below hbl)
        clear hbl
        (try go_wp2_with fail)
        refine hKk.out _ _ ?_ (fun hHeld => ?_)
        · (try dsimp only)
          exact ⟨(unhide HK).ca, (unhide HK).cb⟩
        clear hKk Kk
        (try simp only [List.setIfInBounds_toArray, List.set_cons_zero, List.set_cons_succ])
        refine anyH_at #[true, true, true, true, false, true, false, false] (by kernel_rfl) ?_
        refine wpAnyH_take (i := 4) (oi := { dst := some 22, op := _, type := _, pos := _, after := _, guard := _ }) (v := ?vv4r2) rfl (by kernel_rfl) (by kernel_rfl) (by kernel_rfl) (fun _ _ _ h => h) (Or.inl ⟨by rfl, ?hy4r2⟩) (by assumption) ?rest4r2
        case hy4r2 => ((intro w hSw; (try dsimp only at hSw); go_simp) <;> with_reducible rfl)
        case rest4r2 =>
          (try simp only [Act.put, List.setIfInBounds_toArray, List.set_cons_zero, List.set_cons_succ])
          refine anyH_at #[true, true, true, true, true, true, false, false] (by kernel_rfl) ?_
          refine wpAnyH_take (i := 6) (oi := { dst := some 24, op := _, type := _, pos := _, after := _, guard := _ }) (v := ?vv6r2) rfl (by kernel_rfl) (by kernel_rfl) (by kernel_rfl) (fun _ _ _ h => h) (Or.inl ⟨by rfl, ?hy6r2⟩) (by assumption) ?rest6r2
          case hy6r2 => ((intro w hSw; (try dsimp only at hSw); go_simp) <;> with_reducible rfl)
          case rest6r2 =>
            (try simp only [Act.put, List.setIfInBounds_toArray, List.set_cons_zero, List.set_cons_succ])
            refine anyH_at #[true, true, true, true, true, true, true, false] (by kernel_rfl) ?_
            refine wpAnyH_take (i := 7) (oi := { dst := some 12, op := _, type := _, pos := _, after := _, guard := _ }) (v := ?vv7r2) rfl (by kernel_rfl) (by kernel_rfl) (by kernel_rfl) (fun _ _ _ h => h) (Or.inl ⟨by rfl, ?hy7r2⟩) (by assumption) ?rest7r2
            case hy7r2 => ((intro w hSw; (try dsimp only at hSw); go_simp) <;> with_reducible rfl)
            case rest7r2 =>
              (try simp only [Act.put, List.setIfInBounds_toArray, List.set_cons_zero, List.set_cons_succ])
              refine anyH_at #[true, true, true, true, true, true, true, true] (by kernel_rfl) ?_
              refine wpAnyH_done (by kernel_rfl) ?_ _
              clear hHeld
              go_wp2_with fail
              refine (unhide HL _).mono ?_
              rintro _ w4 ⟨rfl, hbl⟩
              have HK := hide ((unhide HK).below hbl)
              clear hbl
              rcases hq with ⟨xm, rfl⟩ | ⟨rfl, rfl⟩ | ⟨xm, rfl⟩
              · clear HU
                go_wp2_with fail
                refine (unhide HL _).mono ?_
                rintro _ w5 ⟨rfl, hbl⟩
                have HK := hide ((unhide HK).below hbl)
                clear hbl
                have ca' := (unhide HK).ca; have cb' := (unhide HK).cb
                go_wp2_with fail
                clear ca' cb'
                refine (unhide HG _ (unhide HK).na (unhide HK).nb).mono ?_
                rintro _ w7 ⟨s7, rfl, hN7, hbl⟩
                obtain ⟨a7, n7, c7, rfl⟩ := hN7.slice
                have HK := hide ((unhide HK).below hbl)
                clear hbl
                have HN : Hid ((w7.alloc (.cells #[.slice a7 n7 c7] 50)).cell? ⟨w7.heap.size, 0, none⟩ = some (.slice a7 n7 c7) ∧ (w7.alloc (.cells #[.slice a7 n7 c7] 50)).frozen? ⟨w7.heap.size, 0, none⟩ = false ∧ IsNat (w7.alloc (.cells #[.slice a7 n7 c7] 50)) (.slice a7 n7 c7) G) := ⟨by simp [go_sem], by simp [go_sem], hN7.below (below1 _ _)⟩
                have HB := hide (balloc (unhide HK).bel (.cells #[.slice a7 n7 c7] 50))
                have hz7 : w0.heap.size ≤ w7.heap.size := (unhide HK).bel.size
                clear hN7 HK
                go_wp2_with fail
                refine (refLen_any _ _ _ _ _ (unhide HN).2.2).mono ?_
                rw [unhide HLG]
                rintro _ w8 ⟨rfl, hbl⟩
                have HN := hide (And.intro (keep1 hbl (lt_of_cell (unhide HN).1) (unhide HN).1) (And.intro ((hbl.frozen (lt_of_cell (unhide HN).1)).trans (unhide HN).2.1) ((unhide HN).2.2.below hbl)))
                have HB := hide (bthen (unhide HB) hbl)
                clear hbl
                go_wp2_with fail
                refine (unhide HL _).mono ?_
                rintro _ w10 ⟨rfl, hbl⟩
                have HN := hide (And.intro (keep1 hbl (lt_of_cell (unhide HN).1) (unhide HN).1) (And.intro ((hbl.frozen (lt_of_cell (unhide HN).1)).trans (unhide HN).2.1) ((unhide HN).2.2.below hbl)))
                have HB := hide (bthen (unhide HB) hbl)
                clear hbl
                go_wp2_with fail
                refine (unhide HT _).mono ?_
                rintro _ w11 ⟨rfl, hbl⟩
                have HN := hide (And.intro (keep1 hbl (lt_of_cell (unhide HN).1) (unhide HN).1) (And.intro ((hbl.frozen (lt_of_cell (unhide HN).1)).trans (unhide HN).2.1) ((unhide HN).2.2.below hbl)))
                have HB := hide (bthen (unhide HB) hbl)
                clear hbl
                go_wp2_with fail
                refine (unhide HI _).mono ?_
                rintro _ w12 ⟨rfl, hbl⟩
                have HB := hide (bthen (unhide HB) hbl)
                go_wp2_with fail
                go_ret
                exact ⟨rfl, unhide HB⟩
                
              · clear HU
                go_wp2_with fail
                refine (unhide HL _).mono ?_
                rintro _ w5 ⟨rfl, hbl⟩
                have HK := hide ((unhide HK).below hbl)
                clear hbl
                have ca' := (unhide HK).ca; have cb' := (unhide HK).cb
                go_wp2_with fail
                clear ca' cb'
                refine (unhide HG _ (unhide HK).na (unhide HK).nb).mono ?_
                rintro _ w7 ⟨s7, rfl, hN7, hbl⟩
                obtain ⟨a7, n7, c7, rfl⟩ := hN7.slice
                have HK := hide ((unhide HK).below hbl)
                clear hbl
                have HN : Hid ((w7.alloc (.cells #[.slice a7 n7 c7] 50)).cell? ⟨w7.heap.size, 0, none⟩ = some (.slice a7 n7 c7) ∧ (w7.alloc (.cells #[.slice a7 n7 c7] 50)).frozen? ⟨w7.heap.size, 0, none⟩ = false ∧ IsNat (w7.alloc (.cells #[.slice a7 n7 c7] 50)) (.slice a7 n7 c7) G) := ⟨by simp [go_sem], by simp [go_sem], hN7.below (below1 _ _)⟩
                have HB := hide (balloc (unhide HK).bel (.cells #[.slice a7 n7 c7] 50))
                have hz7 : w0.heap.size ≤ w7.heap.size := (unhide HK).bel.size
                clear hN7 HK
                go_wp2_with fail
                refine (refLen_any _ _ _ _ _ (unhide HN).2.2).mono ?_
                rw [unhide HLG]
                rintro _ w8 ⟨rfl, hbl⟩
                have HN := hide (And.intro (keep1 hbl (lt_of_cell (unhide HN).1) (unhide HN).1) (And.intro ((hbl.frozen (lt_of_cell (unhide HN).1)).trans (unhide HN).2.1) ((unhide HN).2.2.below hbl)))
                have HB := hide (bthen (unhide HB) hbl)
                clear hbl
                go_wp2_with fail
                refine (unhide HL _).mono ?_
                rintro _ w10 ⟨rfl, hbl⟩
                have HN := hide (And.intro (keep1 hbl (lt_of_cell (unhide HN).1) (unhide HN).1) (And.intro ((hbl.frozen (lt_of_cell (unhide HN).1)).trans (unhide HN).2.1) ((unhide HN).2.2.below hbl)))
                have HB := hide (bthen (unhide HB) hbl)
                clear hbl
                go_wp2_with fail
                refine (unhide HT _).mono ?_
                rintro _ w11 ⟨rfl, hbl⟩
                have HN := hide (And.intro (keep1 hbl (lt_of_cell (unhide HN).1) (unhide HN).1) (And.intro ((hbl.frozen (lt_of_cell (unhide HN).1)).trans (unhide HN).2.1) ((unhide HN).2.2.below hbl)))
                have HB := hide (bthen (unhide HB) hbl)
                clear hbl
                go_wp2_with fail
                refine (unhide HI _).mono ?_
                rintro _ w12 ⟨rfl, hbl⟩
                have HB := hide (bthen (unhide HB) hbl)
                go_wp2_with fail
                go_ret
                exact ⟨rfl, unhide HB⟩
                
              · have HU := HU xm
                have xn : ¬ q < L := by omega
                have xd := dt xm
                go_wp2_with fail
                refine (unhide HL _).mono ?_
                rintro _ w5 ⟨rfl, hbl⟩
                have HK := hide ((unhide HK).below hbl)
                clear hbl
                have ca' := (unhide HK).ca; have cb' := (unhide HK).cb
                go_wp2_with fail
                clear ca' cb'
                refine (unhide HU _ (unhide HK).na (unhide HK).nb).mono ?_
                rintro _ w6 ⟨rfl, hbl⟩
                have HK := hide ((unhide HK).below hbl)
                clear hbl
                have ca' := (unhide HK).ca; have cb' := (unhide HK).cb
                go_wp2_with fail
                clear ca' cb'
                refine (unhide HG _ (unhide HK).na (unhide HK).nb).mono ?_
                rintro _ w7 ⟨s7, rfl, hN7, hbl⟩
                obtain ⟨a7, n7, c7, rfl⟩ := hN7.slice
                have HK := hide ((unhide HK).below hbl)
                clear hbl
                have HN : Hid ((w7.alloc (.cells #[.slice a7 n7 c7] 50)).cell? ⟨w7.heap.size, 0, none⟩ = some (.slice a7 n7 c7) ∧ (w7.alloc (.cells #[.slice a7 n7 c7] 50)).frozen? ⟨w7.heap.size, 0, none⟩ = false ∧ IsNat (w7.alloc (.cells #[.slice a7 n7 c7] 50)) (.slice a7 n7 c7) G) := ⟨by simp [go_sem], by simp [go_sem], hN7.below (below1 _ _)⟩
                have HB := hide (balloc (unhide HK).bel (.cells #[.slice a7 n7 c7] 50))
                have hz7 : w0.heap.size ≤ w7.heap.size := (unhide HK).bel.size
                clear hN7 HK
                go_wp2_with fail
                refine (refLen_any _ _ _ _ _ (unhide HN).2.2).mono ?_
                rw [unhide HLG]
                rintro _ w8 ⟨rfl, hbl⟩
                have HN := hide (And.intro (keep1 hbl (lt_of_cell (unhide HN).1) (unhide HN).1) (And.intro ((hbl.frozen (lt_of_cell (unhide HN).1)).trans (unhide HN).2.1) ((unhide HN).2.2.below hbl)))
                have HB := hide (bthen (unhide HB) hbl)
                clear hbl
                go_wp2_with fail
                refine (unhide HL _).mono ?_
                rintro _ w10 ⟨rfl, hbl⟩
                have HN := hide (And.intro (keep1 hbl (lt_of_cell (unhide HN).1) (unhide HN).1) (And.intro ((hbl.frozen (lt_of_cell (unhide HN).1)).trans (unhide HN).2.1) ((unhide HN).2.2.below hbl)))
                have HB := hide (bthen (unhide HB) hbl)
                clear hbl
                go_wp2_with fail
                refine (unhide HT _).mono ?_
                rintro _ w11 ⟨rfl, hbl⟩
                have HN := hide (And.intro (keep1 hbl (lt_of_cell (unhide HN).1) (unhide HN).1) (And.intro ((hbl.frozen (lt_of_cell (unhide HN).1)).trans (unhide HN).2.1) ((unhide HN).2.2.below hbl)))
                have HB := hide (bthen (unhide HB) hbl)
                clear hbl
                go_wp2_with fail
                refine (unhide HI _).mono ?_
                rintro _ w12 ⟨rfl, hbl⟩
                have HB := hide (bthen (unhide HB) hbl)
                go_wp2_with fail
                go_ret
                exact ⟨rfl, unhide HB⟩
                

set_option maxRecDepth 100000 in
set_option maxHeartbeats 8000000 in
theorem near_ss {w f L Tp P k LA LB TF q : Int} {n : Bool} (a b : Option Addr) (na ca nb cb x y G : Nat) (w0 : World) (hx : IsNat w0 (.slice a na ca) x) (hy : IsNat w0 (.slice b nb cb) y)
    (HF : Hid (∀ W, Calls Try.prog 37 #[.int .i64 w] W fun r W' => r = .returned (.int .i64 f) ∧ Below W.heap.size W W')) (HL : Hid (∀ W, Calls Try.prog 51 #[.int .i64 w] W fun r W' => r = .returned (.int .i64 L) ∧ Below W.heap.size W W')) (HT : Hid (∀ W, Calls Try.prog 49 #[.int .i64 w] W fun r W' => r = .returned (.int .i64 Tp) ∧ Below W.heap.size W W')) (H2 : Hid (∀ W, Calls Try.prog 36 #[.int .i64 f] W fun r W' => r = .returned (.int .u64 P) ∧ Below W.heap.size W W'))
    (hla : (Go.bitLen x : Int) = LA) (hlb : (Go.bitLen y : Int) = LB) 
    (r1 : LA ≤ 20000) (r2 : LB ≤ 20000) (r3 : -20000 ≤ k ∧ k ≤ 20000) (r4 : 0 ≤ f ∧ f ≤ 63) (r5 : -20000 ≤ L ∧ L ≤ 20000) (r6 : -20000 ≤ Tp ∧ Tp ≤ 20000)
    (htf : LA - LB + k - f = TF) (hq : (TF < L ∧ q = L) ∨ (TF = L ∧ q = L) ∨ (L < TF ∧ q = TF))
    (HU : L < TF → Hid (∀ W, IsNat W (.slice a na ca) x → IsNat W (.slice b nb cb) y → Calls Try.prog 52 #[.agg #[.slice a na ca], .agg #[.slice b nb cb], .int .i64 (k - q - f)] W fun r W' => r = .returned (.bool false) ∧ Below W.heap.size W W'))
    (HG : Hid (∀ W, IsNat W (.slice a na ca) x → IsNat W (.slice b nb cb) y → Calls Try.prog 53 #[.agg #[.slice a na ca], .agg #[.slice b nb cb], .int .i64 (k - q)] W fun r W' => ∃ s', r = .returned (.agg #[s']) ∧ IsNat W' s' G ∧ Below W.heap.size W W'))
    {LG S V : Int} (hlg' : (Go.bitLen G : Int) = LG) (d : ¬ f + 1 < LG) (z : decide (L + Tp - 2 < q) = false) (hs : lo G = S) (t : decide (S < P) = true) (HM : Hid (∀ W, Calls Try.prog 18 #[.int .i64 w, .bool n, .int .i64 0, .int .u64 S] W fun r W' => r = .returned (.int .u64 V) ∧ Below W.heap.size W W')) :
    Calls Try.prog 25 #[.int .i64 w, .bool n, .agg #[.slice a na ca], .agg #[.slice b nb cb], .int .i64 k] w0 fun r W' => r = .returned (.int .u64 V) ∧ Below w0.heap.size w0 W' := by
  have k1 : IntKind.i64.wrap (LA - LB) = LA - LB := i64_id (by omega) (by omega)
  have k2 : IntKind.i64.wrap (LA - LB + k) = LA - LB + k := i64_id (by omega) (by omega)
  have k3 : IntKind.i64.wrap (LA - LB + k - f) = TF := by rw [← htf]; exact i64_id (by omega) (by omega)
  have rq1 : -200001 ≤ q ∧ q ≤ 200000 := by rcases hq with h | h | h <;> omega
  have k5 : IntKind.i64.wrap (k - q - f) = k - q - f := i64_id (by omega) (by omega)
  have k7 : IntKind.i64.wrap (k - q) = k - q := i64_id (by omega) (by omega)
  have k8 : IntKind.i64.wrap (f + 1) = f + 1 := i64_id (by omega) (by omega)
  have k9 : IntKind.i64.wrap (q + 1) = q + 1 := i64_id (by omega) (by omega)
  have k10 : IntKind.i64.wrap (L + Tp) = L + Tp := i64_id (by omega) (by omega)
  have k11 : IntKind.i64.wrap (L + Tp - 2) = L + Tp - 2 := i64_id (by omega) (by omega)
  have HLA := hide hla; have HLB := hide hlb
  clear hla hlb r1 r2 r3 r4 r5 r6 rq1 htf
  have HLG := hide hlg'
  clear hlg'
  have HS := hide hs
  clear hs
  
  have HX := hide hx; have HY := hide hy
  clear hx hy
  go_enter Try.func25, Try.ntmps25
  go_wp2_with fail
  have HK : Hid (TwoSt w0.heap.size w0 (.slice a na ca) (.slice b nb cb) x y ((w0.alloc (.cells #[.slice a na ca] 50)).alloc (.cells #[.slice b nb cb] 50))) :=
    { ca := by simp [go_sem], cb := by simp [go_sem], na := (unhide HX).below (below2 _ _ _), nb := (unhide HY).below (below2 _ _ _), bel := below2 _ _ _ }
  clear HX HY
  refine (unhide HF _).mono ?_
  rintro _ w1 ⟨rfl, hbl⟩
  have HK := hide ((unhide HK).below hbl)
  clear hbl
  
  go_wp2_with fail
  have HK := hide ((unhide HK).below ((Below.refl _ _).drew))
  refine wp_region_held_drew (S := fun w' => w'.cell? ⟨w0.heap.size, 0, none⟩ = some (.slice a na ca) ∧ w'.cell? ⟨w0.heap.size + 1, 0, none⟩ = some (.slice b nb cb)) (by kernel_rfl) ?_ (fun hHeld => ?_)
  · (try dsimp only)
    exact ⟨(unhide HK).ca, (unhide HK).cb⟩
  refine anyH_at #[false, false, false, false, false, false, false, false] (by kernel_rfl) ?_
  refine wpAnyH_take (i := 0) (oi := { dst := some 18, op := _, type := _, pos := _, after := _, guard := _ }) (v := ?vv0r2) rfl (by kernel_rfl) (by kernel_rfl) (by kernel_rfl) (fun _ _ _ h => h) (Or.inl ⟨by rfl, ?hy0r2⟩) (by assumption) ?rest0r2
  case hy0r2 => ((intro w hSw; (try dsimp only at hSw); go_simp) <;> with_reducible rfl)
  case rest0r2 =>
    (try simp only [Act.put, List.setIfInBounds_toArray, List.set_cons_zero, List.set_cons_succ])
    refine anyH_at #[true, false, false, false, false, false, false, false] (by kernel_rfl) ?_
    refine wpAnyH_take (i := 2) (oi := { dst := some 20, op := _, type := _, pos := _, after := _, guard := _ }) (v := ?vv2r2) rfl (by kernel_rfl) (by kernel_rfl) (by kernel_rfl) (fun _ _ _ h => h) (Or.inl ⟨by rfl, ?hy2r2⟩) (by assumption) ?rest2r2
    case hy2r2 => ((intro w hSw; (try dsimp only at hSw); go_simp) <;> with_reducible rfl)
    case rest2r2 =>
      (try simp only [Act.put, List.setIfInBounds_toArray, List.set_cons_zero, List.set_cons_succ])
      refine anyH_at #[true, false, true, false, false, false, false, false] (by kernel_rfl) ?_
      refine wpAnyH_take (i := 5) (oi := { dst := some 23, op := _, type := _, pos := _, after := _, guard := _ }) (v := ?vv5r2) rfl (by kernel_rfl) (by kernel_rfl) (by kernel_rfl) (fun _ _ _ h => h) (Or.inl ⟨by rfl, ?hy5r2⟩) (by assumption) ?rest5r2
      case hy5r2 => ((intro w hSw; (try dsimp only at hSw); go_simp) <;> with_reducible rfl)
      case rest5r2 =>
        (try simp only [Act.put, List.setIfInBounds_toArray, List.set_cons_zero, List.set_cons_succ])
        refine anyH_at #[true, false, true, false, false, true, false, false] (by kernel_rfl) ?_
        refine wpAnyH_ready (rs := [1]) (by kernel_rfl) (by simp) ?_
        refine AllReadyH.cons (o := { dst := some 19, op := _, type := _, pos := _, after := _, guard := _ }) rfl (fun Kk hKk => ?_) AllReadyH.nil
        go_simp
        refine (refLen_any _ _ _ _ _ (unhide HK).na).mono ?_
        rw [unhide HLA]
        rintro _ w2 ⟨rfl, hbl⟩
        have HK := hide ((unhide HK).below hbl)
        clear hbl
        (try go_wp2_with fail)
        refine hKk.out _ _ ?_ (fun hHeld => ?_)
        · (try dsimp only)
          exact ⟨(unhide HK).ca, (unhide HK).cb⟩
        clear hKk Kk
        (try simp only [List.setIfInBounds_toArray, List.set_cons_zero, List.set_cons_succ])
        refine anyH_at #[true, true, true, false, false, true, false, false] (by kernel_rfl) ?_
        refine wpAnyH_ready (rs := [3]) (by kernel_rfl) (by simp) ?_
        refine AllReadyH.cons (o := { dst := some 21, op := _, type := _, pos := _, after := _, guard := _ }) rfl (fun Kk hKk => ?_) AllReadyH.nil
        go_simp
        refine (refLen_any _ _ _ _ _ (unhide HK).nb).mono ?_
        rw [unhide HLB]
        rintro _ w3 ⟨rfl, hbl⟩
        have HK := hide ((unhide HK).below hbl)
        clear hbl
        (try go_wp2_with fail)
        refine hKk.out _ _ ?_ (fun hHeld => ?_)
        · (try dsimp only)
          exact ⟨(unhide HK).ca, (unhide HK).cb⟩
        clear hKk Kk
        (try simp only [List.setIfInBounds_toArray, List.set_cons_zero, List.set_cons_succ])
        refine anyH_at #[true, true, true, true, false, true, false, false] (by kernel_rfl) ?_
        refine wpAnyH_take (i := 4) (oi := { dst := some 22, op := _, type := _, pos := _, after := _, guard := _ }) (v := ?vv4r2) rfl (by kernel_rfl) (by kernel_rfl) (by kernel_rfl) (fun _ _ _ h => h) (Or.inl ⟨by rfl, ?hy4r2⟩) (by assumption) ?rest4r2
        case hy4r2 => ((intro w hSw; (try dsimp only at hSw); go_simp) <;> with_reducible rfl)
        case rest4r2 =>
          (try simp only [Act.put, List.setIfInBounds_toArray, List.set_cons_zero, List.set_cons_succ])
          refine anyH_at #[true, true, true, true, true, true, false, false] (by kernel_rfl) ?_
          refine wpAnyH_take (i := 6) (oi := { dst := some 24, op := _, type := _, pos := _, after := _, guard := _ }) (v := ?vv6r2) rfl (by kernel_rfl) (by kernel_rfl) (by kernel_rfl) (fun _ _ _ h => h) (Or.inl ⟨by rfl, ?hy6r2⟩) (by assumption) ?rest6r2
          case hy6r2 => ((intro w hSw; (try dsimp only at hSw); go_simp) <;> with_reducible rfl)
          case rest6r2 =>
            (try simp only [Act.put, List.setIfInBounds_toArray, List.set_cons_zero, List.set_cons_succ])
            refine anyH_at #[true, true, true, true, true, true, true, false] (by kernel_rfl) ?_
            refine wpAnyH_take (i := 7) (oi := { dst := some 12, op := _, type := _, pos := _, after := _, guard := _ }) (v := ?vv7r2) rfl (by kernel_rfl) (by kernel_rfl) (by kernel_rfl) (fun _ _ _ h => h) (Or.inl ⟨by rfl, ?hy7r2⟩) (by assumption) ?rest7r2
            case hy7r2 => ((intro w hSw; (try dsimp only at hSw); go_simp) <;> with_reducible rfl)
            case rest7r2 =>
              (try simp only [Act.put, List.setIfInBounds_toArray, List.set_cons_zero, List.set_cons_succ])
              refine anyH_at #[true, true, true, true, true, true, true, true] (by kernel_rfl) ?_
              refine wpAnyH_done (by kernel_rfl) ?_ _
              clear hHeld
              go_wp2_with fail
              refine (unhide HL _).mono ?_
              rintro _ w4 ⟨rfl, hbl⟩
              have HK := hide ((unhide HK).below hbl)
              clear hbl
              rcases hq with ⟨xm, rfl⟩ | ⟨rfl, rfl⟩ | ⟨xm, rfl⟩
              · clear HU
                go_wp2_with fail
                refine (unhide HL _).mono ?_
                rintro _ w5 ⟨rfl, hbl⟩
                have HK := hide ((unhide HK).below hbl)
                clear hbl
                have ca' := (unhide HK).ca; have cb' := (unhide HK).cb
                go_wp2_with fail
                clear ca' cb'
                refine (unhide HG _ (unhide HK).na (unhide HK).nb).mono ?_
                rintro _ w7 ⟨s7, rfl, hN7, hbl⟩
                obtain ⟨a7, n7, c7, rfl⟩ := hN7.slice
                have HK := hide ((unhide HK).below hbl)
                clear hbl
                have HN : Hid ((w7.alloc (.cells #[.slice a7 n7 c7] 50)).cell? ⟨w7.heap.size, 0, none⟩ = some (.slice a7 n7 c7) ∧ (w7.alloc (.cells #[.slice a7 n7 c7] 50)).frozen? ⟨w7.heap.size, 0, none⟩ = false ∧ IsNat (w7.alloc (.cells #[.slice a7 n7 c7] 50)) (.slice a7 n7 c7) G) := ⟨by simp [go_sem], by simp [go_sem], hN7.below (below1 _ _)⟩
                have HB := hide (balloc (unhide HK).bel (.cells #[.slice a7 n7 c7] 50))
                have hz7 : w0.heap.size ≤ w7.heap.size := (unhide HK).bel.size
                clear hN7 HK
                go_wp2_with fail
                refine (refLen_any _ _ _ _ _ (unhide HN).2.2).mono ?_
                rw [unhide HLG]
                rintro _ w8 ⟨rfl, hbl⟩
                have HN := hide (And.intro (keep1 hbl (lt_of_cell (unhide HN).1) (unhide HN).1) (And.intro ((hbl.frozen (lt_of_cell (unhide HN).1)).trans (unhide HN).2.1) ((unhide HN).2.2.below hbl)))
                have HB := hide (bthen (unhide HB) hbl)
                clear hbl
                go_wp2_with fail
                refine (unhide HL _).mono ?_
                rintro _ w10 ⟨rfl, hbl⟩
                have HN := hide (And.intro (keep1 hbl (lt_of_cell (unhide HN).1) (unhide HN).1) (And.intro ((hbl.frozen (lt_of_cell (unhide HN).1)).trans (unhide HN).2.1) ((unhide HN).2.2.below hbl)))
                have HB := hide (bthen (unhide HB) hbl)
                clear hbl
                go_wp2_with fail
                refine (unhide HT _).mono ?_
                rintro _ w11 ⟨rfl, hbl⟩
                have HN := hide (And.intro (keep1 hbl (lt_of_cell (unhide HN).1) (unhide HN).1) (And.intro ((hbl.frozen (lt_of_cell (unhide HN).1)).trans (unhide HN).2.1) ((unhide HN).2.2.below hbl)))
                have HB := hide (bthen (unhide HB) hbl)
                clear hbl
                have cn := (unhide HN).1
                go_wp2_with fail
                clear cn
                refine (uint_any _ _ _ _ _ (unhide HN).2.2).mono ?_
                rw [unhide HS]
                rintro _ w12 ⟨rfl, hbl⟩
                have HB := hide (bthen (unhide HB) hbl)
                clear hbl HN
                go_wp2_with fail
                refine (unhide H2 _).mono ?_
                rintro _ w13 ⟨rfl, hbl⟩
                have HB := hide (bthen (unhide HB) hbl)
                clear hbl
                go_wp2_with fail
                refine (unhide HM _).mono ?_
                rintro _ w14 ⟨rfl, hbl⟩
                have HB := hide (bthen (unhide HB) hbl)
                go_wp2_with fail
                go_ret
                exact ⟨rfl, unhide HB⟩
                
              · clear HU
                go_wp2_with fail
                refine (unhide HL _).mono ?_
                rintro _ w5 ⟨rfl, hbl⟩
                have HK := hide ((unhide HK).below hbl)
                clear hbl
                have ca' := (unhide HK).ca; have cb' := (unhide HK).cb
                go_wp2_with fail
                clear ca' cb'
                refine (unhide HG _ (unhide HK).na (unhide HK).nb).mono ?_
                rintro _ w7 ⟨s7, rfl, hN7, hbl⟩
                obtain ⟨a7, n7, c7, rfl⟩ := hN7.slice
                have HK := hide ((unhide HK).below hbl)
                clear hbl
                have HN : Hid ((w7.alloc (.cells #[.slice a7 n7 c7] 50)).cell? ⟨w7.heap.size, 0, none⟩ = some (.slice a7 n7 c7) ∧ (w7.alloc (.cells #[.slice a7 n7 c7] 50)).frozen? ⟨w7.heap.size, 0, none⟩ = false ∧ IsNat (w7.alloc (.cells #[.slice a7 n7 c7] 50)) (.slice a7 n7 c7) G) := ⟨by simp [go_sem], by simp [go_sem], hN7.below (below1 _ _)⟩
                have HB := hide (balloc (unhide HK).bel (.cells #[.slice a7 n7 c7] 50))
                have hz7 : w0.heap.size ≤ w7.heap.size := (unhide HK).bel.size
                clear hN7 HK
                go_wp2_with fail
                refine (refLen_any _ _ _ _ _ (unhide HN).2.2).mono ?_
                rw [unhide HLG]
                rintro _ w8 ⟨rfl, hbl⟩
                have HN := hide (And.intro (keep1 hbl (lt_of_cell (unhide HN).1) (unhide HN).1) (And.intro ((hbl.frozen (lt_of_cell (unhide HN).1)).trans (unhide HN).2.1) ((unhide HN).2.2.below hbl)))
                have HB := hide (bthen (unhide HB) hbl)
                clear hbl
                go_wp2_with fail
                refine (unhide HL _).mono ?_
                rintro _ w10 ⟨rfl, hbl⟩
                have HN := hide (And.intro (keep1 hbl (lt_of_cell (unhide HN).1) (unhide HN).1) (And.intro ((hbl.frozen (lt_of_cell (unhide HN).1)).trans (unhide HN).2.1) ((unhide HN).2.2.below hbl)))
                have HB := hide (bthen (unhide HB) hbl)
                clear hbl
                go_wp2_with fail
                refine (unhide HT _).mono ?_
                rintro _ w11 ⟨rfl, hbl⟩
                have HN := hide (And.intro (keep1 hbl (lt_of_cell (unhide HN).1) (unhide HN).1) (And.intro ((hbl.frozen (lt_of_cell (unhide HN).1)).trans (unhide HN).2.1) ((unhide HN).2.2.below hbl)))
                have HB := hide (bthen (unhide HB) hbl)
                clear hbl
                have cn := (unhide HN).1
                go_wp2_with fail
                clear cn
                refine (uint_any _ _ _ _ _ (unhide HN).2.2).mono ?_
                rw [unhide HS]
                rintro _ w12 ⟨rfl, hbl⟩
                have HB := hide (bthen (unhide HB) hbl)
                clear hbl HN
                go_wp2_with fail
                refine (unhide H2 _).mono ?_
                rintro _ w13 ⟨rfl, hbl⟩
                have HB := hide (bthen (unhide HB) hbl)
                clear hbl
                go_wp2_with fail
                refine (unhide HM _).mono ?_
                rintro _ w14 ⟨rfl, hbl⟩
                have HB := hide (bthen (unhide HB) hbl)
                go_wp2_with fail
                go_ret
                exact ⟨rfl, unhide HB⟩
                
              · have HU := HU xm
                have xn : ¬ q < L := by omega
                have xd := dt xm
                go_wp2_with fail
                refine (unhide HL _).mono ?_
                rintro _ w5 ⟨rfl, hbl⟩
                have HK := hide ((unhide HK).below hbl)
                clear hbl
                have ca' := (unhide HK).ca; have cb' := (unhide HK).cb
                go_wp2_with fail
                clear ca' cb'
                refine (unhide HU _ (unhide HK).na (unhide HK).nb).mono ?_
                rintro _ w6 ⟨rfl, hbl⟩
                have HK := hide ((unhide HK).below hbl)
                clear hbl
                have ca' := (unhide HK).ca; have cb' := (unhide HK).cb
                go_wp2_with fail
                clear ca' cb'
                refine (unhide HG _ (unhide HK).na (unhide HK).nb).mono ?_
                rintro _ w7 ⟨s7, rfl, hN7, hbl⟩
                obtain ⟨a7, n7, c7, rfl⟩ := hN7.slice
                have HK := hide ((unhide HK).below hbl)
                clear hbl
                have HN : Hid ((w7.alloc (.cells #[.slice a7 n7 c7] 50)).cell? ⟨w7.heap.size, 0, none⟩ = some (.slice a7 n7 c7) ∧ (w7.alloc (.cells #[.slice a7 n7 c7] 50)).frozen? ⟨w7.heap.size, 0, none⟩ = false ∧ IsNat (w7.alloc (.cells #[.slice a7 n7 c7] 50)) (.slice a7 n7 c7) G) := ⟨by simp [go_sem], by simp [go_sem], hN7.below (below1 _ _)⟩
                have HB := hide (balloc (unhide HK).bel (.cells #[.slice a7 n7 c7] 50))
                have hz7 : w0.heap.size ≤ w7.heap.size := (unhide HK).bel.size
                clear hN7 HK
                go_wp2_with fail
                refine (refLen_any _ _ _ _ _ (unhide HN).2.2).mono ?_
                rw [unhide HLG]
                rintro _ w8 ⟨rfl, hbl⟩
                have HN := hide (And.intro (keep1 hbl (lt_of_cell (unhide HN).1) (unhide HN).1) (And.intro ((hbl.frozen (lt_of_cell (unhide HN).1)).trans (unhide HN).2.1) ((unhide HN).2.2.below hbl)))
                have HB := hide (bthen (unhide HB) hbl)
                clear hbl
                go_wp2_with fail
                refine (unhide HL _).mono ?_
                rintro _ w10 ⟨rfl, hbl⟩
                have HN := hide (And.intro (keep1 hbl (lt_of_cell (unhide HN).1) (unhide HN).1) (And.intro ((hbl.frozen (lt_of_cell (unhide HN).1)).trans (unhide HN).2.1) ((unhide HN).2.2.below hbl)))
                have HB := hide (bthen (unhide HB) hbl)
                clear hbl
                go_wp2_with fail
                refine (unhide HT _).mono ?_
                rintro _ w11 ⟨rfl, hbl⟩
                have HN := hide (And.intro (keep1 hbl (lt_of_cell (unhide HN).1) (unhide HN).1) (And.intro ((hbl.frozen (lt_of_cell (unhide HN).1)).trans (unhide HN).2.1) ((unhide HN).2.2.below hbl)))
                have HB := hide (bthen (unhide HB) hbl)
                clear hbl
                have cn := (unhide HN).1
                go_wp2_with fail
                clear cn
                refine (uint_any _ _ _ _ _ (unhide HN).2.2).mono ?_
                rw [unhide HS]
                rintro _ w12 ⟨rfl, hbl⟩
                have HB := hide (bthen (unhide HB) hbl)
                clear hbl HN
                go_wp2_with fail
                refine (unhide H2 _).mono ?_
                rintro _ w13 ⟨rfl, hbl⟩
                have HB := hide (bthen (unhide HB) hbl)
                clear hbl
                go_wp2_with fail
                refine (unhide HM _).mono ?_
                rintro _ w14 ⟨rfl, hbl⟩
                have HB := hide (bthen (unhide HB) hbl)
                go_wp2_with fail
                go_ret
                exact ⟨rfl, unhide HB⟩
                

end Go.Proofs.Ytcgnlpamfhdiiaa
