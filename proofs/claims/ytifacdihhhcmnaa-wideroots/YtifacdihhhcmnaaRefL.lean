/- The contract of the reference's Root. -/
import Derived.Test.YtifacdihhhcmnaaNewOne
import Derived.Test.YtifacdihhhcmnaaRefK
namespace Go.Proofs.Ytifacdihhhcmnaa
open Go.RowKit

/-- The root's number: k bits are still to come. -/
def RootTo (x R k : Nat) : Prop := R * R ≤ x ∧ x < (R + 2 ^ k) * (R + 2 ^ k)
theorem rootTo_start (x : Nat) : RootTo x 0 (Go.bitLen x / 2 + 1 + 1) := by
  refine ⟨by simp, ?_⟩
  have h1 := (Go.bitLen_spec x).1
  have h2 := Nat.pow_le_pow_right (show 0 < 2 by omega) (show Go.bitLen x ≤ (Go.bitLen x / 2 + 1 + 1) + (Go.bitLen x / 2 + 1 + 1) by omega)
  rw [Nat.pow_add] at h2
  rw [Nat.zero_add]
  exact Nat.lt_of_lt_of_le h1 h2
theorem rootTo_yes {x R k : Nat} (h : RootTo x R (k + 1)) (hT : (R + 1 * 2 ^ k) * (R + 1 * 2 ^ k) ≤ x) : RootTo x (R + 1 * 2 ^ k) k := by
  refine ⟨hT, ?_⟩
  have h2 := h.2
  rw [show R + 2 ^ (k + 1) = R + 1 * 2 ^ k + 2 ^ k by rw [Nat.pow_succ]; omega] at h2
  exact h2
theorem rootTo_no {x R k : Nat} (h : RootTo x R (k + 1)) (hT : ¬ (R + 1 * 2 ^ k) * (R + 1 * 2 ^ k) ≤ x) : RootTo x R k := by
  rw [Nat.one_mul] at hT
  exact ⟨h.1, by omega⟩
theorem rootTo_end {x R : Nat} (h : RootTo x R 0) : R * R ≤ x ∧ x < (R + 1) * (R + 1) := h
theorem rootTo_le {x R k : Nat} (h : RootTo x R k) : R ≤ x := by
  have h1 := h.1
  rcases Nat.eq_zero_or_pos R with h0 | h0
  · omega
  · have := Nat.le_mul_of_pos_right R h0
    omega
theorem sum_pw {a b i : Nat} (ha : a < pw i) (hb : b < pw i) : a + b < pw (i + 1) := by
  have := pw_pos i
  rw [pw_succ]
  omega

/-- The root's variables at a round's head. -/
structure RootSt (N : Nat) (w : World) (A Rs : Value) (x R : Nat) (wr : World) : Prop where
  ca : wr.cell? ⟨N, 0, none⟩ = some A
  c1 : wr.cell? ⟨N + 1, 0, none⟩ = some (.slice none 0 0)
  cr : wr.cell? ⟨N + 1 + 1, 0, none⟩ = some Rs
  f1 : wr.frozen? ⟨N + 1, 0, none⟩ = false
  fr : wr.frozen? ⟨N + 1 + 1, 0, none⟩ = false
  sz : N + 1 + 1 < wr.heap.size
  na : IsNat wr A x
  nr : IsNat wr Rs R
  bel : Below N w wr
theorem stable_root (N : Nat) (w : World) (A Rs : Value) (x R : Nat) : Stable (RootSt N w A Rs x R) := by
  intro wr w' h hb
  have hz := h.sz
  have k : ∀ j, j < wr.heap.size → w'.cell? ⟨j, 0, none⟩ = wr.cell? ⟨j, 0, none⟩ := fun j hj => hb.cell (p := ⟨j, 0, none⟩) hj
  have l : ∀ j, j < wr.heap.size → w'.frozen? ⟨j, 0, none⟩ = wr.frozen? ⟨j, 0, none⟩ := fun j hj => hb.frozen (p := ⟨j, 0, none⟩) hj
  exact { ca := by rw [k _ (by omega)]; exact h.ca, c1 := by rw [k _ (by omega)]; exact h.c1, cr := by rw [k _ (by omega)]; exact h.cr, f1 := by rw [l _ (by omega)]; exact h.f1, fr := by rw [l _ (by omega)]; exact h.fr,
          sz := Nat.lt_of_lt_of_le hz hb.size, na := h.na.below hb, nr := h.nr.below hb, bel := h.bel.trans (hb.mono (by omega)) }
theorem RootSt.setT {N : Nat} {w wr : World} {A Rs : Value} {x R : Nat} (h : RootSt N w A Rs x R wr) {b : Nat} (hb : N + 1 + 1 + 1 ≤ b) {a : Option Addr} {n c : Nat} (hc : wr.cell? ⟨b, 0, none⟩ = some (.slice a n c)) (v : Value) : RootSt N w A Rs x R (wr.setCell ⟨b, 0, none⟩ v) := by
  have o : ∀ j, j ≠ b → (wr.setCell ⟨b, 0, none⟩ v).cell? ⟨j, 0, none⟩ = wr.cell? ⟨j, 0, none⟩ := fun j hj => World.cell?_setCell_other _ _ _ _ (by intro he; injection he with he1; exact hj he1.symm)
  exact { ca := by rw [o _ (by omega)]; exact h.ca, c1 := by rw [o _ (by omega)]; exact h.c1, cr := by rw [o _ (by omega)]; exact h.cr, f1 := by rw [frozen_set]; exact h.f1, fr := by rw [frozen_set]; exact h.fr,
          sz := by simpa using h.sz, na := h.na.store hc v, nr := h.nr.store hc v, bel := h.bel.setCell (by simp; omega) _ }
theorem RootSt.setR {N : Nat} {w wr : World} {A Rs : Value} {x R : Nat} (h : RootSt N w A Rs x R wr) {Rs' : Value} {R' : Nat} (k : IsNat wr Rs' R') : RootSt N w A Rs' x R' (wr.setCell ⟨N + 1 + 1, 0, none⟩ Rs') := by
  have o : ∀ j, j ≠ N + 1 + 1 → (wr.setCell ⟨N + 1 + 1, 0, none⟩ Rs').cell? ⟨j, 0, none⟩ = wr.cell? ⟨j, 0, none⟩ := fun j hj => World.cell?_setCell_other _ _ _ _ (by intro he; injection he with he1; exact hj he1.symm)
  exact { ca := by rw [o _ (by omega)]; exact h.ca, c1 := by rw [o _ (by omega)]; exact h.c1, cr := World.cell?_setCell_same _ _ _ h.cr, f1 := by rw [frozen_set]; exact h.f1, fr := by rw [frozen_set]; exact h.fr,
          sz := by simpa using h.sz, na := h.nr.eta h.cr _ h.na, nr := h.nr.eta h.cr _ k, bel := h.bel.setCell (by simp; omega) _ }

theorem cmp_down {v u : Nat} (h : v ≤ u) : cmpN v u ≤ 0 := by
  unfold cmpN
  split
  · omega
  · rw [if_neg (by omega)]; omega
theorem cmp_up {v u : Nat} (h : ¬ v ≤ u) : ¬ cmpN v u ≤ 0 := by
  unfold cmpN
  rw [if_neg (by omega), if_pos (by omega)]
  omega

set_option maxRecDepth 100000 in
set_option maxHeartbeats 2000000 in
theorem refRoot_any (a : Option Addr) (n c x : Nat) (w : World) (hx : IsNat w (.slice a n c) x) (bx : x < pw 20) :
    Calls Try.prog 33 #[.agg #[.slice a n c]] w fun e w' => ∃ s' r, e = .returned (.agg #[s']) ∧ IsNat w' s' r ∧ r * r ≤ x ∧ x < (r + 1) * (r + 1) ∧ Below w.heap.size w w' := by
  have hLx : Go.bitLen x ≤ 640 := by have := bitLen_pw bx; omega
  have HX := hide hx; have HBX := hide bx
  clear hx bx
  go_enter Try.func33, Try.ntmps33
  go_wp2_with fail
  refine (refLen_any a n c x _ ((unhide HX).below (balloc (below2 _ _ _) _))).mono ?_
  rintro e w1 ⟨rfl, hb1⟩
  have hSt : RootSt w.heap.size w (.slice a n c) (.slice none 0 0) x 0 w1 := by
    refine stable_root _ _ _ _ _ _ _ _ ?_ hb1
    exact { ca := by simp [go_sem], c1 := by simp [go_sem], cr := by simp [go_sem], f1 := by simp [go_sem], fr := by simp [go_sem], sz := by simp,
            na := (unhide HX).below (balloc (below2 _ _ _) _), nr := ⟨[], Or.inl ⟨rfl, rfl⟩, (fun d hd => by simp at hd), Or.inl rfl, rfl⟩, bel := balloc (below2 _ _ _) _ }
  have HSt := hide hSt
  clear hSt hb1
  go_wp2_with fail
  go_loopw [4] (fun v4 wr => ∃ (t : Int) (Ra : Option Addr) (Rn Rc R : Nat), v4 = .int .i64 t ∧ -1 ≤ t ∧ t ≤ 321 ∧ RootTo x R (t + 1).toNat ∧ RootSt w.heap.size w (.slice a n c) (.slice Ra Rn Rc) x R wr) (fun i _ => ((intOf i) + 1).toNat)
  case atStart =>
    refine ⟨(Go.bitLen x : Int) / 2 + 1, none, 0, 0, 0, ?_, by omega, by omega, ?_, unhide HSt⟩
    · rfl
    · rw [show ((Go.bitLen x : Int) / 2 + 1 + 1).toNat = Go.bitLen x / 2 + 1 + 1 by omega]
      exact rootTo_start x
  case round =>
    clear HSt
    obtain ⟨t, Ra, Rn, Rc, R, rfl, ht1, ht2, hR, hSt⟩ := hrel
    have HRx := hide (Nat.lt_of_le_of_lt (rootTo_le hR) (unhide HBX))
    have HR := hide hR; have HSt := hide hSt
    clear hR hSt
    by_cases hc : 0 ≤ t
    · obtain ⟨k, rfl⟩ := Int.eq_ofNat_of_zero_le hc
      rw [show ((k : Int) + 1).toNat = k + 1 by omega] at HR
      have HYes := hide (rootTo_yes (unhide HR)); have HNo := hide (rootTo_no (unhide HR))
      have HPk := hide (pow_pw (k := k) (i := 32) (by omega))
      have HTp := hide (sum_pw (lt_pw (k := 20) 32 (unhide HRx) (by omega)) (unhide HPk))
      have cr := (unhide HSt).cr
      go_wp2_with fail
      refine wp_region_held_drew (S := fun w' => w'.cell? ⟨w.heap.size + 1 + 1, 0, none⟩ = some (.slice Ra Rn Rc)) (by kernel_rfl) cr (fun hHeld => ?_)
      refine wo_start (N := w.heap.size + 1 + 1 + 1) (i1 := 5) (d1 := 5) (v1 := .slice none 0 0) (t1 := 28) (f := 1) (n := 5)
        (T := RootSt w.heap.size w (.slice a n c) (.slice Ra Rn Rc) x R)
        (by kernel_rfl) (by kernel_rfl) (fun _ _ _ _ _ h => h) (stable_cell _ _) ?_ (stable_root _ _ _ _ _ _) hHeld (stable_root _ _ _ _ _ _ _ _ (unhide HSt) ((Below.refl _ _).drew)) (unhide HSt).sz ?_
      · intro a w K h
        unfold wpOp
        go_simp
        exact Or.inl h
      clear HSt cr hHeld
      refine wo_take (i := 0) (oi := { dst := some 14, op := _, type := _, pos := _, after := _, guard := _ }) rfl (by kernel_rfl) (by kernel_rfl) (fun _ _ _ h => h) (Or.inl ⟨by rfl, fun w hSw => by (try dsimp only at hSw); go_simp; with_reducible rfl⟩) ?_
      (try simp only [Act.put, List.setIfInBounds_toArray, List.set_cons_zero, List.set_cons_succ])
      refine wo_take (i := 2) (oi := { dst := some 16, op := _, type := _, pos := _, after := _, guard := _ }) rfl (by kernel_rfl) (by kernel_rfl) (fun _ _ _ h => h) (Or.inl ⟨by rfl, fun w hSw => by (try dsimp only at hSw); go_simp; with_reducible rfl⟩) ?_
      (try simp only [Act.put, List.setIfInBounds_toArray, List.set_cons_zero, List.set_cons_succ])
      refine wo_call (c := 1) (o := { dst := some 15, op := _, type := _, pos := _, after := _, guard := _ }) rfl (by kernel_rfl) (by kernel_rfl) (fun u hSu hTu Kk hKk => ?_)
      go_simp
      refine (refOf_1 _).mono ?_
      rintro e w8 ⟨s8, rfl, hN8, hb8⟩
      obtain ⟨a8, n8, c8, rfl⟩ := hN8.slice
      have HT := hide (stable_root _ _ _ _ _ _ _ _ hTu hb8); clear hTu hSu
      (try go_wp2_with fail)
      refine hKk.out _ _ (fun w' => IsNat w' (.slice a8 n8 c8) 1 ∧ RootSt w.heap.size w (.slice a n c) (.slice Ra Rn Rc) x R w') (by assumption) ((stable_nat _ _).and (stable_root _ _ _ _ _ _)) (⟨hN8, unhide HT⟩) ?_
      clear hKk Kk
      (try simp only [Act.put, List.setIfInBounds_toArray, List.set_cons_zero, List.set_cons_succ])
      clear HT hN8
      refine wo_call (c := 3) (o := { dst := some 17, op := _, type := _, pos := _, after := _, guard := _ }) rfl (by kernel_rfl) (by kernel_rfl) (fun u hSu hTu Kk hKk => ?_)
      go_simp
      refine (refShl_any a8 n8 c8 1 k _ hTu.1 (Nat.le_trans (hTu.1.short (k := 1) (by rw [pw_1]; omega)) (by omega)) (by omega)).mono ?_
      rintro e w9 ⟨s9, rfl, hN9, hb9⟩
      obtain ⟨a9, n9, c9, rfl⟩ := hN9.slice
      have HT := hide (stable_root _ _ _ _ _ _ _ _ hTu.2 hb9); clear hTu hSu
      (try go_wp2_with fail)
      refine hKk.out _ _ (fun w' => IsNat w' (.slice a9 n9 c9) (1 * 2 ^ k) ∧ RootSt w.heap.size w (.slice a n c) (.slice Ra Rn Rc) x R w') (by assumption) ((stable_nat _ _).and (stable_root _ _ _ _ _ _)) (⟨hN9, unhide HT⟩) ?_
      clear hKk Kk
      (try simp only [Act.put, List.setIfInBounds_toArray, List.set_cons_zero, List.set_cons_succ])
      clear HT hN9
      refine wo_call (c := 4) (o := { dst := some 18, op := _, type := _, pos := _, after := _, guard := _ }) rfl (by kernel_rfl) (by kernel_rfl) (fun u hSu hTu Kk hKk => ?_)
      go_simp
      refine (refAdd_any Ra a9 Rn Rc n9 c9 R (1 * 2 ^ k) _ hTu.2.nr hTu.1 (Nat.le_trans (hTu.2.nr.short (unhide HRx)) (by omega)) (Nat.le_trans (hTu.1.short (unhide HPk)) (by omega))).mono ?_
      rintro e w10 ⟨s10, rfl, hN10, hb10⟩
      obtain ⟨a10, n10, c10, rfl⟩ := hN10.slice
      have HT := hide (stable_root _ _ _ _ _ _ _ _ hTu.2 hb10); clear hTu hSu
      (try go_wp2_with fail)
      refine hKk.out _ _ (fun w' => IsNat w' (.slice a10 n10 c10) (R + 1 * 2 ^ k) ∧ RootSt w.heap.size w (.slice a n c) (.slice Ra Rn Rc) x R w') (by assumption) ((stable_nat _ _).and (stable_root _ _ _ _ _ _)) (⟨hN10, unhide HT⟩) ?_
      clear hKk Kk
      (try simp only [Act.put, List.setIfInBounds_toArray, List.set_cons_zero, List.set_cons_succ])
      clear HT hN10
      refine wo_fin (by kernel_rfl) (fun w11 b1 hSu hTu k1 => ?_)
      (try simp only [Act.put, List.setIfInBounds_toArray, List.set_cons_zero, List.set_cons_succ])
      unfold ptr
      have cb := k1.cell; have fb := k1.thawed
      have zb := k1.base
      refine anyH_at #[true, true, true, true, true, true, false] (by kernel_rfl) ?_
      refine wpAnyH_ready (rs := [6]) (by kernel_rfl) (by simp) ?_
      refine AllReadyH.cons (o := { dst := none, op := _, type := _, pos := _, after := _, guard := _ }) rfl (fun Kk hKk => ?_) AllReadyH.nil
      go_simp
      refine hKk.out _ _ ?_ (fun hHeld => ?_)
      · rw [World.cell?_setCell_other _ _ _ _ (by intro he; injection he with he1; omega)]; exact hSu
      clear hKk Kk hSu
      refine wpAnyH_done (by kernel_rfl) ?_ _
      have HSt := hide (hTu.2.setT zb cb (.slice a10 n10 c10))
      have HT := hide (hTu.1.store cb (.slice a10 n10 c10))
      have ct : (w11.setCell ⟨b1, 0, none⟩ (.slice a10 n10 c10)).cell? ⟨b1, 0, none⟩ = some (.slice a10 n10 c10) := World.cell?_setCell_same _ _ _ cb
      have ztb : b1 < (w11.setCell ⟨b1, 0, none⟩ (.slice a10 n10 c10)).heap.size := by simpa using k1.size
      clear hTu cb fb k1 hb8 hb9 hb10
      generalize w11.setCell ⟨b1, 0, none⟩ (.slice a10 n10 c10) = w12 at *
      clear hHeld
      generalize R + 1 * 2 ^ k = T at *
      have hza := (unhide HSt).sz
      have HS0 := hide (And.intro ct (And.intro (unhide HSt).ca (And.intro (unhide HT) (unhide HSt).na)))
      have HTs := hide (Nat.le_trans ((unhide HT).short (unhide HTp)) (show 32 + 1 ≤ 1000 by omega))
      clear ct
      obtain ⟨U, hU⟩ : ∃ U, U = T * T := ⟨_, rfl⟩
      rw [← hU] at HYes HNo
      have HU := hide hU
      clear hU
      by_cases hT : U ≤ x
      · have hcmp := cmp_down hT
        have HT' := hide hT
        clear hT
        go_wp2_with fail
        refine wp_region_held_drew (S := fun w' => w'.cell? ⟨b1, 0, none⟩ = some (.slice a10 n10 c10) ∧ w'.cell? ⟨w.heap.size, 0, none⟩ = some (.slice a n c) ∧ IsNat w' (.slice a10 n10 c10) T ∧ IsNat w' (.slice a n c) x) (by kernel_rfl) ?_ (fun hHeld => ?_)
        · (try dsimp only)
          exact unhide HS0
        refine anyH_at #[false, false, false, false, false, false] (by kernel_rfl) ?_
        refine wpAnyH_take (i := 0) (oi := { dst := some 19, op := _, type := _, pos := _, after := _, guard := _ }) (v := ?vv0) rfl (by kernel_rfl) (by kernel_rfl) (by kernel_rfl) (fun _ _ _ h => h) (Or.inl ⟨by rfl, ?hy0⟩) (by assumption) ?rest0
        case hy0 => ((intro w hSw; (try dsimp only at hSw); go_simp) <;> with_reducible rfl)
        case rest0 =>
          (try simp only [Act.put, List.setIfInBounds_toArray, List.set_cons_zero, List.set_cons_succ])
          refine anyH_at #[true, false, false, false, false, false] (by kernel_rfl) ?_
          refine wpAnyH_take (i := 1) (oi := { dst := some 20, op := _, type := _, pos := _, after := _, guard := _ }) (v := ?vv1) rfl (by kernel_rfl) (by kernel_rfl) (by kernel_rfl) (fun _ _ _ h => h) (Or.inl ⟨by rfl, ?hy1⟩) (by assumption) ?rest1
          case hy1 => ((intro w hSw; (try dsimp only at hSw); go_simp) <;> with_reducible rfl)
          case rest1 =>
            (try simp only [Act.put, List.setIfInBounds_toArray, List.set_cons_zero, List.set_cons_succ])
            refine anyH_at #[true, true, false, false, false, false] (by kernel_rfl) ?_
            refine wpAnyH_take (i := 3) (oi := { dst := some 22, op := _, type := _, pos := _, after := _, guard := _ }) (v := ?vv3) rfl (by kernel_rfl) (by kernel_rfl) (by kernel_rfl) (fun _ _ _ h => h) (Or.inl ⟨by rfl, ?hy3⟩) (by assumption) ?rest3
            case hy3 => ((intro w hSw; (try dsimp only at hSw); go_simp) <;> with_reducible rfl)
            case rest3 =>
              (try simp only [Act.put, List.setIfInBounds_toArray, List.set_cons_zero, List.set_cons_succ])
              refine anyH_at #[true, true, false, true, false, false] (by kernel_rfl) ?_
              refine wpAnyH_ready (rs := [2]) (by kernel_rfl) (by simp) ?_
              refine AllReadyH.cons (o := { dst := some 21, op := _, type := _, pos := _, after := _, guard := _ }) rfl (fun Kk hKk => ?_) AllReadyH.nil
              go_simp
              refine (refMul_any a10 a10 n10 c10 n10 c10 T T _ hHeld.2.2.1 hHeld.2.2.1 (unhide HTs) (unhide HTs)).mono ?_
              rintro e w13 ⟨s13, rfl, hN13, hbl⟩
              obtain ⟨a13, n13, c13, rfl⟩ := hN13.slice
              rw [← unhide HU] at hN13
              have HN13 := hide hN13
              have HSt := hide (stable_root _ _ _ _ _ _ _ _ (stable_root _ _ _ _ _ _ _ _ (unhide HSt) ((Below.refl _ _).drew)) hbl)
              clear hN13
              (try go_wp2_with fail)
              refine hKk.out _ _ ?_ (fun hHeld => ?_)
              · (try dsimp only)
                exact ((stable_cell _ _).and ((stable_cell _ _).and ((stable_nat _ _).and (stable_nat _ _)))) _ _ hHeld hbl
              clear hKk Kk
              (try simp only [List.setIfInBounds_toArray, List.set_cons_zero, List.set_cons_succ])
              refine anyH_at #[true, true, true, true, false, false] (by kernel_rfl) ?_
              refine wpAnyH_ready (rs := [4]) (by kernel_rfl) (by simp) ?_
              refine AllReadyH.cons (o := { dst := some 23, op := _, type := _, pos := _, after := _, guard := _ }) rfl (fun Kk hKk => ?_) AllReadyH.nil
              go_simp
              refine (refCmp_any a13 a n13 c13 n c U x _ (unhide HN13) hHeld.2.2.2).mono ?_
              rintro e w14 ⟨rfl, hbl⟩
              have HSt := hide (stable_root _ _ _ _ _ _ _ _ (unhide HSt) hbl)
              (try go_wp2_with fail)
              refine hKk.out _ _ ?_ (fun hHeld => ?_)
              · (try dsimp only)
                exact ((stable_cell _ _).and ((stable_cell _ _).and ((stable_nat _ _).and (stable_nat _ _)))) _ _ hHeld hbl
              clear hKk Kk
              (try simp only [List.setIfInBounds_toArray, List.set_cons_zero, List.set_cons_succ])
              refine anyH_at #[true, true, true, true, true, false] (by kernel_rfl) ?_
              refine wpAnyH_take (i := 5) (oi := { dst := some 24, op := _, type := _, pos := _, after := _, guard := _ }) (v := .bool true) rfl (by kernel_rfl) (by kernel_rfl) (by kernel_rfl) (fun _ _ _ h => h) (Or.inl ⟨by rfl, ?hy5⟩) (by assumption) ?rest5
              case hy5 => ((intro w hSw; (try dsimp only at hSw); go_simp) <;> with_reducible rfl)
              case rest5 =>
                (try simp only [Act.put, List.setIfInBounds_toArray, List.set_cons_zero, List.set_cons_succ])
                refine anyH_at #[true, true, true, true, true, true] (by kernel_rfl) ?_
                refine wpAnyH_done (by kernel_rfl) ?_ _
                have ct := hHeld.1; have HT := hide hHeld.2.2.1
                have cr := (unhide HSt).cr; have fr := (unhide HSt).fr
                clear hHeld
                go_wp2_with fail
                go_roundw
                case rel => exact ⟨(k : Int) - 1, a10, n10, c10, T, by go_num, by omega, by omega, by rw [show ((k : Int) - 1 + 1).toNat = k by omega]; exact unhide HYes (unhide HT'), (unhide HSt).setR (unhide HT)⟩
                case measure => simp [intOf]
      · have hcmp := cmp_up hT
        have HT' := hide hT
        clear hT
        go_wp2_with fail
        refine wp_region_held_drew (S := fun w' => w'.cell? ⟨b1, 0, none⟩ = some (.slice a10 n10 c10) ∧ w'.cell? ⟨w.heap.size, 0, none⟩ = some (.slice a n c) ∧ IsNat w' (.slice a10 n10 c10) T ∧ IsNat w' (.slice a n c) x) (by kernel_rfl) ?_ (fun hHeld => ?_)
        · (try dsimp only)
          exact unhide HS0
        refine anyH_at #[false, false, false, false, false, false] (by kernel_rfl) ?_
        refine wpAnyH_take (i := 0) (oi := { dst := some 19, op := _, type := _, pos := _, after := _, guard := _ }) (v := ?vv0) rfl (by kernel_rfl) (by kernel_rfl) (by kernel_rfl) (fun _ _ _ h => h) (Or.inl ⟨by rfl, ?hy0⟩) (by assumption) ?rest0
        case hy0 => ((intro w hSw; (try dsimp only at hSw); go_simp) <;> with_reducible rfl)
        case rest0 =>
          (try simp only [Act.put, List.setIfInBounds_toArray, List.set_cons_zero, List.set_cons_succ])
          refine anyH_at #[true, false, false, false, false, false] (by kernel_rfl) ?_
          refine wpAnyH_take (i := 1) (oi := { dst := some 20, op := _, type := _, pos := _, after := _, guard := _ }) (v := ?vv1) rfl (by kernel_rfl) (by kernel_rfl) (by kernel_rfl) (fun _ _ _ h => h) (Or.inl ⟨by rfl, ?hy1⟩) (by assumption) ?rest1
          case hy1 => ((intro w hSw; (try dsimp only at hSw); go_simp) <;> with_reducible rfl)
          case rest1 =>
            (try simp only [Act.put, List.setIfInBounds_toArray, List.set_cons_zero, List.set_cons_succ])
            refine anyH_at #[true, true, false, false, false, false] (by kernel_rfl) ?_
            refine wpAnyH_take (i := 3) (oi := { dst := some 22, op := _, type := _, pos := _, after := _, guard := _ }) (v := ?vv3) rfl (by kernel_rfl) (by kernel_rfl) (by kernel_rfl) (fun _ _ _ h => h) (Or.inl ⟨by rfl, ?hy3⟩) (by assumption) ?rest3
            case hy3 => ((intro w hSw; (try dsimp only at hSw); go_simp) <;> with_reducible rfl)
            case rest3 =>
              (try simp only [Act.put, List.setIfInBounds_toArray, List.set_cons_zero, List.set_cons_succ])
              refine anyH_at #[true, true, false, true, false, false] (by kernel_rfl) ?_
              refine wpAnyH_ready (rs := [2]) (by kernel_rfl) (by simp) ?_
              refine AllReadyH.cons (o := { dst := some 21, op := _, type := _, pos := _, after := _, guard := _ }) rfl (fun Kk hKk => ?_) AllReadyH.nil
              go_simp
              refine (refMul_any a10 a10 n10 c10 n10 c10 T T _ hHeld.2.2.1 hHeld.2.2.1 (unhide HTs) (unhide HTs)).mono ?_
              rintro e w13 ⟨s13, rfl, hN13, hbl⟩
              obtain ⟨a13, n13, c13, rfl⟩ := hN13.slice
              rw [← unhide HU] at hN13
              have HN13 := hide hN13
              have HSt := hide (stable_root _ _ _ _ _ _ _ _ (stable_root _ _ _ _ _ _ _ _ (unhide HSt) ((Below.refl _ _).drew)) hbl)
              clear hN13
              (try go_wp2_with fail)
              refine hKk.out _ _ ?_ (fun hHeld => ?_)
              · (try dsimp only)
                exact ((stable_cell _ _).and ((stable_cell _ _).and ((stable_nat _ _).and (stable_nat _ _)))) _ _ hHeld hbl
              clear hKk Kk
              (try simp only [List.setIfInBounds_toArray, List.set_cons_zero, List.set_cons_succ])
              refine anyH_at #[true, true, true, true, false, false] (by kernel_rfl) ?_
              refine wpAnyH_ready (rs := [4]) (by kernel_rfl) (by simp) ?_
              refine AllReadyH.cons (o := { dst := some 23, op := _, type := _, pos := _, after := _, guard := _ }) rfl (fun Kk hKk => ?_) AllReadyH.nil
              go_simp
              refine (refCmp_any a13 a n13 c13 n c U x _ (unhide HN13) hHeld.2.2.2).mono ?_
              rintro e w14 ⟨rfl, hbl⟩
              have HSt := hide (stable_root _ _ _ _ _ _ _ _ (unhide HSt) hbl)
              (try go_wp2_with fail)
              refine hKk.out _ _ ?_ (fun hHeld => ?_)
              · (try dsimp only)
                exact ((stable_cell _ _).and ((stable_cell _ _).and ((stable_nat _ _).and (stable_nat _ _)))) _ _ hHeld hbl
              clear hKk Kk
              (try simp only [List.setIfInBounds_toArray, List.set_cons_zero, List.set_cons_succ])
              refine anyH_at #[true, true, true, true, true, false] (by kernel_rfl) ?_
              refine wpAnyH_take (i := 5) (oi := { dst := some 24, op := _, type := _, pos := _, after := _, guard := _ }) (v := .bool false) rfl (by kernel_rfl) (by kernel_rfl) (by kernel_rfl) (fun _ _ _ h => h) (Or.inl ⟨by rfl, ?hy5⟩) (by assumption) ?rest5
              case hy5 => ((intro w hSw; (try dsimp only at hSw); go_simp) <;> with_reducible rfl)
              case rest5 =>
                (try simp only [Act.put, List.setIfInBounds_toArray, List.set_cons_zero, List.set_cons_succ])
                refine anyH_at #[true, true, true, true, true, true] (by kernel_rfl) ?_
                refine wpAnyH_done (by kernel_rfl) ?_ _
                clear hHeld
                go_wp2_with fail
                go_roundw
                case rel => exact ⟨(k : Int) - 1, Ra, Rn, Rc, R, by go_num, by omega, by omega, by rw [show ((k : Int) - 1 + 1).toNat = k by omega]; exact unhide HNo (unhide HT'), unhide HSt⟩
                case measure => simp [intOf]
    · have ht : t + 1 = 0 := by omega
      rw [ht] at HR
      have HE := hide (rootTo_end (unhide HR))
      have cr := (unhide HSt).cr; have c1 := (unhide HSt).c1; have f1 := (unhide HSt).f1
      clear ht
      go_wp2
      refine bodyPost_ret (v := .agg #[.slice Ra Rn Rc]) (by simp [results, Try.results33, go_sem, c1]) rfl ⟨_, rfl, R, (unhide HSt).nr.store c1 _, (unhide HE).1, (unhide HE).2, ?_⟩
      exact (unhide HSt).bel.setCell (by simp) _

end Go.Proofs.Ytifacdihhhcmnaa
