/- CfC. -/
import Derived.Test.YtalahdkgigcpfaaDoorC43
import Derived.Test.YtalahdkgigcpfaaDoorC44
namespace Go.Proofs.YtalahdkgigcpfaaDoor
open Go.RowKit

theorem Fo.dep_le : ∀ T : Fo, T.dep ≤ T.size
  | .nil => Nat.le_refl _
  | .cons h t e r => by
    have h1 := t.dep_le
    have h2 := e.dep_le
    have h3 := r.dep_le
    show max (if max t.dep e.dep > 0 ∨ t.len + e.len > 0 ∨ (2 ≤ h.op ∧ h.op ≤ 4) then max t.dep e.dep + 1 else max t.dep e.dep) r.dep ≤ 1 + t.size + e.size + r.size
    split <;> omega
/-- The contract of the document's Depth for what is smaller than n. -/
def PRd (n : Nat) : Prop := ∀ (T : Fo) (P : Nat → Prop) (v : Value) (W : World), T.size < n → T.size ≤ 4000000 → Fov W P T v →
  Calls Tryd.prog 19 #[v] W fun r W' => r = .returned (.int .i64 (T.dep : Int)) ∧ Fr [] W W'
set_option maxHeartbeats 40000000 in
set_option maxRecDepth 100000 in
theorem rdepth_step {n : Nat} {T : Fo} {P : Nat → Prop} {v : Value} {W : World} (HI : Hid (PRd n)) (hs : T.size < n + 1) (hz : T.size ≤ 4000000) (h : Fov W P T v) :
  Calls Tryd.prog 19 #[v] W fun r W' => r = .returned (.int .i64 (T.dep : Int)) ∧ Fr [] W W' := by
  obtain ⟨a, cap, rfl, hc, ho⟩ := h.open2
  have HO := hide ho
  have hl := T.len_le
  clear h ho
  go_enter Tryd.func19, Tryd.ntmps19
  go_wp2_with fail
  go_loopw [3, 4] (fun v3 v4 wr => ∃ (i : Nat), i ≤ T.len ∧ v4 = .int .i64 (i : Int) ∧ v3 = .int .i64 ((T.pre i).dep : Int) ∧ Fr [] W wr) (fun _ v4 _ => T.len - (intOf v4).toNat)
  case atStart => exact ⟨0, by omega, rfl, rfl, Fr.refl _ _⟩
  case round =>
    obtain ⟨i, hi, rfl, rfl, hF⟩ := hrel
    have hps := T.pre_size i
    have hpd := (T.pre i).dep_le
    by_cases hlt : i < T.len
    · obtain ⟨⟨⟨op, ty, aa, bb, bits, li, has⟩, t, e⟩, hat⟩ := Fo.at_some hlt
      rcases unhide HO with h0 | ⟨b, off, rfl, hp, hel⟩
      · omega
      · obtain ⟨l1, l3, t1, t3, e1, e3, hE, hL, ht, he⟩ := hel i _ t e hat
        have hsz := Fo.at_size hat
        have hsc : (T.pre (i + 1)).dep = max (T.pre i).dep (if max t.dep e.dep > 0 ∨ t.len + e.len > 0 ∨ (2 ≤ op ∧ op ≤ 4) then max t.dep e.dep + 1 else max t.dep e.dep) := by
          rw [Fo.pre_succ hat, Fo.dep_app]
          show max _ (max (if max t.dep e.dep > 0 ∨ t.len + e.len > 0 ∨ (2 ≤ op ∧ op ≤ 4) then max t.dep e.dep + 1 else max t.dep e.dep) 0) = _
          rw [Nat.max_zero]
        have htd := t.dep_le
        have hed := e.dep_le
        have htl := t.len_le
        have hell := e.len_le
        have hi' : (i : Int) < (T.len : Int) := by omega
        have hi2 : (0 : Int) ≤ (i : Int) := by omega
        have hE := hE.fr hF (by simp)
        have hdr : Fr [] wr wr.drew := (Fr.refl _ _).drew
        have HT := hide ((ht.fr hF (by simp)).fr hdr (by simp))
        have HEl := hide ((he.fr hF (by simp)).fr hdr (by simp))
        have HB := hide (show wr.drew.cell? ⟨b, off + i * 9, none⟩ = some (.int .i64 op) ∧ wr.drew.cell? ⟨b, off + i * 9 + 6, none⟩ = some (.slice t1 t.len t3) ∧ wr.drew.cell? ⟨b, off + i * 9 + 7, none⟩ = some (.slice e1 e.len e3) from ⟨hdr.keep hE.1 (by simp), hdr.keep hE.2.2.2.2.2.2.1 (by simp), hdr.keep hE.2.2.2.2.2.2.2.1 (by simp)⟩)
        have HF := hide (hF.trans hdr)
        clear hE hL ht he hF hat hel hdr
        obtain ⟨m, hm, hmm⟩ : ∃ m : Nat, max t.dep e.dep = m ∧ (t.dep < e.dep ∧ m = e.dep ∨ ¬ t.dep < e.dep ∧ m = t.dep) := ⟨_, rfl, by omega⟩
        rw [hm] at hsc
        have HM := hide hmm
        have HSc := hide hsc
        clear hm hmm hsc
        go_wp2_with fail
        rcases unhide HM with ⟨hq, hm⟩ | ⟨hq, hm⟩
        · have hq1 : (t.dep : Int) < (e.dep : Int) := by omega
          subst hm
          refine wp_region_held_drew (S := fun w' => w'.cell? ⟨b, off + i * 9, none⟩ = some (.int .i64 op) ∧ w'.cell? ⟨b, off + i * 9 + 6, none⟩ = some (.slice t1 t.len t3) ∧ w'.cell? ⟨b, off + i * 9 + 7, none⟩ = some (.slice e1 e.len e3)) (by kernel_rfl) ?_ (fun hHeld => ?_)
          · (try dsimp only)
            exact unhide HB
          refine lst0 14 (by kernel_rfl) ?_
          refine tkA 0 12 1 ?_
          refine tkA 1 13 3 ?_
          refine tkA 2 14 7 ?_
          refine tkA 3 15 15 ?_
          refine tkA 4 16 31 ?_
          refine tkA 6 18 95 ?_
          refine tkA 7 19 223 ?_
          refine tkA 8 20 479 ?_
          refine tkA 9 21 991 ?_
          refine tkA 10 22 2015 ?_
          refine rdA 5 2047 (fun Kk hKk => ?_)
          go_simp
          refine (unhide HI t _ _ _ (by omega) (by omega) (unhide HT)).mono ?_
          rintro _ w3 ⟨rfl, hF3⟩
          have HB := hide (show w3.cell? ⟨b, off + i * 9, none⟩ = some (.int .i64 op) ∧ w3.cell? ⟨b, off + i * 9 + 6, none⟩ = some (.slice t1 t.len t3) ∧ w3.cell? ⟨b, off + i * 9 + 7, none⟩ = some (.slice e1 e.len e3) from ⟨hF3.keep (unhide HB).1 (by simp), hF3.keep (unhide HB).2.1 (by simp), hF3.keep (unhide HB).2.2 (by simp)⟩)
          have HT := hide ((unhide HT).fr hF3 (by simp))
          have HEl := hide ((unhide HEl).fr hF3 (by simp))
          have HF := hide ((unhide HF).trans hF3)
          clear hF3
          (try go_wp2_with fail)
          refine hKk.out _ _ ?_ (fun hHeld => ?_)
          · (try dsimp only)
            exact unhide HB
          clear hKk Kk
          (try simp only [List.setIfInBounds_toArray, List.set_cons_zero, List.set_cons_succ])
          refine rdA 11 4095 (fun Kk hKk => ?_)
          go_simp
          refine (unhide HI e _ _ _ (by omega) (by omega) (unhide HEl)).mono ?_
          rintro _ w4 ⟨rfl, hF3⟩
          have HB := hide (show w4.cell? ⟨b, off + i * 9, none⟩ = some (.int .i64 op) ∧ w4.cell? ⟨b, off + i * 9 + 6, none⟩ = some (.slice t1 t.len t3) ∧ w4.cell? ⟨b, off + i * 9 + 7, none⟩ = some (.slice e1 e.len e3) from ⟨hF3.keep (unhide HB).1 (by simp), hF3.keep (unhide HB).2.1 (by simp), hF3.keep (unhide HB).2.2 (by simp)⟩)
          have HT := hide ((unhide HT).fr hF3 (by simp))
          have HEl := hide ((unhide HEl).fr hF3 (by simp))
          have HF := hide ((unhide HF).trans hF3)
          clear hF3
          (try go_wp2_with fail)
          refine hKk.out _ _ ?_ (fun hHeld => ?_)
          · (try dsimp only)
            exact unhide HB
          clear hKk Kk
          (try simp only [List.setIfInBounds_toArray, List.set_cons_zero, List.set_cons_succ])
          refine rdA 12 8191 (fun Kk hKk => ?_)
          go_simp
          refine hKk.out _ _ ?_ (fun hHeld => ?_)
          · (try dsimp only)
            exact unhide HB
          clear hKk Kk
          (try simp only [List.setIfInBounds_toArray, List.set_cons_zero, List.set_cons_succ])
          refine tkA 13 5 16383 ?_
          refine wpAnyH_done (by kernel_rfl) ?_ _
          obtain ⟨g0, g6, g7⟩ := unhide HB
          have hm0 : e.dep ≤ T.size := by omega
          have iw : IntKind.i64.wrap ((e.dep : Int) + 1) = (e.dep : Int) + 1 := i64_id (by omega) (by omega)
          have il : IntKind.i64.wrap ((t.len : Int) + (e.len : Int)) = (t.len : Int) + (e.len : Int) := i64_id (by omega) (by omega)
          have HFin : Hid (∀ (w' : World) (z : Int), Fr [] W w' → z = ((T.pre (i + 1)).dep : Int) → (∃ i' : Nat, i' ≤ T.len ∧ Value.int .i64 ((i : Int) + 1) = .int .i64 (i' : Int) ∧ Value.int .i64 z = .int .i64 ((T.pre i').dep : Int) ∧ Fr [] W w') ∧ T.len - (intOf (Value.int .i64 ((i : Int) + 1))).toNat < T.len - (intOf (Value.int .i64 (i : Int))).toNat) := hide fun w' z hF hz => ⟨⟨i + 1, by omega, by go_num, by rw [hz], hF⟩, by simp [intOf]; omega⟩
          clear g0 g6 g7
          clear hHeld
          by_cases c1 : 0 < e.dep
          · have c1' : (0 : Int) < (e.dep : Int) := by omega
            have HS2 : Hid ((T.pre (i + 1)).dep = max (T.pre i).dep (e.dep + 1)) := hide (by rw [unhide HSc, if_pos (Or.inl c1)])
            have HB2 := hide (show w4.drew.cell? ⟨b, off + i * 9, none⟩ = some (.int .i64 op) ∧ w4.drew.cell? ⟨b, off + i * 9 + 6, none⟩ = some (.slice t1 t.len t3) ∧ w4.drew.cell? ⟨b, off + i * 9 + 7, none⟩ = some (.slice e1 e.len e3) from unhide HB)
            go_wp2_with fail
            refine wp_region_held_drew (S := fun w' => w'.cell? ⟨b, off + i * 9, none⟩ = some (.int .i64 op) ∧ w'.cell? ⟨b, off + i * 9 + 6, none⟩ = some (.slice t1 t.len t3) ∧ w'.cell? ⟨b, off + i * 9 + 7, none⟩ = some (.slice e1 e.len e3)) (by kernel_rfl) ?_ (fun hHeld => ?_)
            · (try dsimp only)
              exact (unhide HB2)
            refine lst0 34 (by kernel_rfl) ?_
            refine tkA 0 25 1 ?_
            refine tkA 1 26 3 ?_
            refine tkA 2 27 7 ?_
            refine tkU 3 28 15 ?_
            refine tkU 4 29 31 ?_
            refine tkU 5 30 63 ?_
            refine tkU 6 31 127 ?_
            refine tkU 7 32 255 ?_
            refine tkU 8 33 511 ?_
            refine tkU 9 34 1023 ?_
            refine tkU 10 35 2047 ?_
            refine tkU 11 36 4095 ?_
            refine tkU 12 37 8191 ?_
            refine tkU 13 38 16383 ?_
            refine tkU 14 39 32767 ?_
            refine tkU 15 40 65535 ?_
            refine tkU 16 41 131071 ?_
            refine tkA 17 42 262143 ?_
            refine tkA 18 43 524287 ?_
            refine tkU 19 44 1048575 ?_
            refine tkU 20 45 2097151 ?_
            refine tkU 21 46 4194303 ?_
            refine tkU 22 47 8388607 ?_
            refine tkU 23 48 16777215 ?_
            refine tkU 24 49 33554431 ?_
            refine tkU 25 50 67108863 ?_
            refine tkU 26 51 134217727 ?_
            refine tkU 27 52 268435455 ?_
            refine tkU 28 53 536870911 ?_
            refine tkU 29 54 1073741823 ?_
            refine tkU 30 55 2147483647 ?_
            refine tkU 31 56 4294967295 ?_
            refine tkU 32 57 8589934591 ?_
            refine tkA 33 58 17179869183 ?_
            refine wpAnyH_done (by kernel_rfl) ?_ _
            clear hHeld
            go_wp2_with fail
            all_goals
              have h2 := unhide HS2
              exact unhide HFin _ _ ((unhide HF).bel (below_drewN (Below.refl _ _) _)) (by omega)
          · by_cases c2 : 0 < t.len + e.len
            · have c1' : ¬ (0 : Int) < (e.dep : Int) := by omega
              have c2' : (0 : Int) < (t.len : Int) + (e.len : Int) := by omega
              have HS2 : Hid ((T.pre (i + 1)).dep = max (T.pre i).dep (e.dep + 1)) := hide (by rw [unhide HSc, if_pos (Or.inr (Or.inl c2))])
              have HB2 := hide (show w4.drew.cell? ⟨b, off + i * 9, none⟩ = some (.int .i64 op) ∧ w4.drew.cell? ⟨b, off + i * 9 + 6, none⟩ = some (.slice t1 t.len t3) ∧ w4.drew.cell? ⟨b, off + i * 9 + 7, none⟩ = some (.slice e1 e.len e3) from unhide HB)
              go_wp2_with fail
              refine wp_region_held_drew (S := fun w' => w'.cell? ⟨b, off + i * 9, none⟩ = some (.int .i64 op) ∧ w'.cell? ⟨b, off + i * 9 + 6, none⟩ = some (.slice t1 t.len t3) ∧ w'.cell? ⟨b, off + i * 9 + 7, none⟩ = some (.slice e1 e.len e3)) (by kernel_rfl) ?_ (fun hHeld => ?_)
              · (try dsimp only)
                exact (unhide HB2)
              refine lst0 34 (by kernel_rfl) ?_
              refine tkA 0 25 1 ?_
              refine tkA 1 26 3 ?_
              refine tkA 2 27 7 ?_
              refine tkA 3 28 15 ?_
              refine tkA 4 29 31 ?_
              refine tkA 5 30 63 ?_
              refine tkA 6 31 127 ?_
              refine tkA 7 32 255 ?_
              refine tkA 8 33 511 ?_
              refine tkA 9 34 1023 ?_
              refine tkA 10 35 2047 ?_
              refine tkA 11 36 4095 ?_
              refine tkA 12 37 8191 ?_
              refine tkA 13 38 16383 ?_
              refine tkA 14 39 32767 ?_
              refine tkA 15 40 65535 ?_
              refine tkA 16 41 131071 ?_
              refine tkA 17 42 262143 ?_
              refine tkA 18 43 524287 ?_
              refine tkU 19 44 1048575 ?_
              refine tkU 20 45 2097151 ?_
              refine tkU 21 46 4194303 ?_
              refine tkU 22 47 8388607 ?_
              refine tkU 23 48 16777215 ?_
              refine tkU 24 49 33554431 ?_
              refine tkU 25 50 67108863 ?_
              refine tkU 26 51 134217727 ?_
              refine tkU 27 52 268435455 ?_
              refine tkU 28 53 536870911 ?_
              refine tkU 29 54 1073741823 ?_
              refine tkU 30 55 2147483647 ?_
              refine tkU 31 56 4294967295 ?_
              refine tkU 32 57 8589934591 ?_
              refine tkA 33 58 17179869183 ?_
              refine wpAnyH_done (by kernel_rfl) ?_ _
              clear hHeld
              go_wp2_with fail
              all_goals
                have h2 := unhide HS2
                exact unhide HFin _ _ ((unhide HF).bel (below_drewN (Below.refl _ _) _)) (by omega)
            · by_cases c3 : 2 ≤ op
              · by_cases c4 : op ≤ 4
                · have c1' : ¬ (0 : Int) < (e.dep : Int) := by omega
                  have c2' : decide ((0 : Int) < (t.len : Int) + (e.len : Int)) = false := decide_eq_false (by omega)
                  have HS2 : Hid ((T.pre (i + 1)).dep = max (T.pre i).dep (e.dep + 1)) := hide (by rw [unhide HSc, if_pos (Or.inr (Or.inr ⟨c3, c4⟩))])
                  have HB2 := hide (show w4.drew.cell? ⟨b, off + i * 9, none⟩ = some (.int .i64 op) ∧ w4.drew.cell? ⟨b, off + i * 9 + 6, none⟩ = some (.slice t1 t.len t3) ∧ w4.drew.cell? ⟨b, off + i * 9 + 7, none⟩ = some (.slice e1 e.len e3) from unhide HB)
                  go_wp2_with fail
                  refine wp_region_held_drew (S := fun w' => w'.cell? ⟨b, off + i * 9, none⟩ = some (.int .i64 op) ∧ w'.cell? ⟨b, off + i * 9 + 6, none⟩ = some (.slice t1 t.len t3) ∧ w'.cell? ⟨b, off + i * 9 + 7, none⟩ = some (.slice e1 e.len e3)) (by kernel_rfl) ?_ (fun hHeld => ?_)
                  · (try dsimp only)
                    exact (unhide HB2)
                  refine lst0 34 (by kernel_rfl) ?_
                  refine tkA 0 25 1 ?_
                  refine tkA 1 26 3 ?_
                  refine tkA 2 27 7 ?_
                  refine tkA 3 28 15 ?_
                  refine tkA 4 29 31 ?_
                  refine tkA 5 30 63 ?_
                  refine tkA 6 31 127 ?_
                  refine tkA 7 32 255 ?_
                  refine tkA 8 33 511 ?_
                  refine tkA 9 34 1023 ?_
                  refine tkA 10 35 2047 ?_
                  refine tkA 11 36 4095 ?_
                  refine tkA 12 37 8191 ?_
                  refine tkA 13 38 16383 ?_
                  refine tkA 14 39 32767 ?_
                  refine tkA 15 40 65535 ?_
                  refine tkA 16 41 131071 ?_
                  refine tkA 17 42 262143 ?_
                  refine tkA 18 43 524287 ?_
                  refine tkA 19 44 1048575 ?_
                  refine tkA 20 45 2097151 ?_
                  refine tkA 21 46 4194303 ?_
                  refine tkA 22 47 8388607 ?_
                  refine tkA 23 48 16777215 ?_
                  refine tkA 24 49 33554431 ?_
                  refine tkA 25 50 67108863 ?_
                  refine tkA 26 51 134217727 ?_
                  refine tkA 27 52 268435455 ?_
                  refine tkA 28 53 536870911 ?_
                  refine tkA 29 54 1073741823 ?_
                  refine tkA 30 55 2147483647 ?_
                  refine tkA 31 56 4294967295 ?_
                  refine tkA 32 57 8589934591 ?_
                  refine tkA 33 58 17179869183 ?_
                  refine wpAnyH_done (by kernel_rfl) ?_ _
                  clear hHeld
                  go_wp2_with fail
                  all_goals
                    have h2 := unhide HS2
                    exact unhide HFin _ _ ((unhide HF).bel (below_drewN (Below.refl _ _) _)) (by omega)
                · have c1' : ¬ (0 : Int) < (e.dep : Int) := by omega
                  have c2' : decide ((0 : Int) < (t.len : Int) + (e.len : Int)) = false := decide_eq_false (by omega)
                  have c4' : decide (op ≤ 4) = false := decide_eq_false c4
                  have HS2 : Hid ((T.pre (i + 1)).dep = max (T.pre i).dep (e.dep)) := hide (by rw [unhide HSc, if_neg (by rintro (k | k | k) <;> omega)])
                  have HB2 := hide (show w4.drew.cell? ⟨b, off + i * 9, none⟩ = some (.int .i64 op) ∧ w4.drew.cell? ⟨b, off + i * 9 + 6, none⟩ = some (.slice t1 t.len t3) ∧ w4.drew.cell? ⟨b, off + i * 9 + 7, none⟩ = some (.slice e1 e.len e3) from unhide HB)
                  go_wp2_with fail
                  refine wp_region_held_drew (S := fun w' => w'.cell? ⟨b, off + i * 9, none⟩ = some (.int .i64 op) ∧ w'.cell? ⟨b, off + i * 9 + 6, none⟩ = some (.slice t1 t.len t3) ∧ w'.cell? ⟨b, off + i * 9 + 7, none⟩ = some (.slice e1 e.len e3)) (by kernel_rfl) ?_ (fun hHeld => ?_)
                  · (try dsimp only)
                    exact (unhide HB2)
                  refine lst0 34 (by kernel_rfl) ?_
                  refine tkA 0 25 1 ?_
                  refine tkA 1 26 3 ?_
                  refine tkA 2 27 7 ?_
                  refine tkA 3 28 15 ?_
                  refine tkA 4 29 31 ?_
                  refine tkA 5 30 63 ?_
                  refine tkA 6 31 127 ?_
                  refine tkA 7 32 255 ?_
                  refine tkA 8 33 511 ?_
                  refine tkA 9 34 1023 ?_
                  refine tkA 10 35 2047 ?_
                  refine tkA 11 36 4095 ?_
                  refine tkA 12 37 8191 ?_
                  refine tkA 13 38 16383 ?_
                  refine tkA 14 39 32767 ?_
                  refine tkA 15 40 65535 ?_
                  refine tkA 16 41 131071 ?_
                  refine tkA 17 42 262143 ?_
                  refine tkA 18 43 524287 ?_
                  refine tkA 19 44 1048575 ?_
                  refine tkA 20 45 2097151 ?_
                  refine tkA 21 46 4194303 ?_
                  refine tkA 22 47 8388607 ?_
                  refine tkA 23 48 16777215 ?_
                  refine tkA 24 49 33554431 ?_
                  refine tkA 25 50 67108863 ?_
                  refine tkA 26 51 134217727 ?_
                  refine tkA 27 52 268435455 ?_
                  refine tkA 28 53 536870911 ?_
                  refine tkA 29 54 1073741823 ?_
                  refine tkA 30 55 2147483647 ?_
                  refine tkA 31 56 4294967295 ?_
                  refine tkA 32 57 8589934591 ?_
                  refine tkA 33 58 17179869183 ?_
                  refine wpAnyH_done (by kernel_rfl) ?_ _
                  clear hHeld
                  go_wp2_with fail
                  all_goals
                    have h2 := unhide HS2
                    exact unhide HFin _ _ ((unhide HF).bel (below_drewN (Below.refl _ _) _)) (by omega)
              · have c1' : ¬ (0 : Int) < (e.dep : Int) := by omega
                have c2' : decide ((0 : Int) < (t.len : Int) + (e.len : Int)) = false := decide_eq_false (by omega)
                have c3' : decide (2 ≤ op) = false := decide_eq_false c3
                have HS2 : Hid ((T.pre (i + 1)).dep = max (T.pre i).dep (e.dep)) := hide (by rw [unhide HSc, if_neg (by rintro (k | k | k) <;> omega)])
                have HB2 := hide (show w4.drew.cell? ⟨b, off + i * 9, none⟩ = some (.int .i64 op) ∧ w4.drew.cell? ⟨b, off + i * 9 + 6, none⟩ = some (.slice t1 t.len t3) ∧ w4.drew.cell? ⟨b, off + i * 9 + 7, none⟩ = some (.slice e1 e.len e3) from unhide HB)
                go_wp2_with fail
                refine wp_region_held_drew (S := fun w' => w'.cell? ⟨b, off + i * 9, none⟩ = some (.int .i64 op) ∧ w'.cell? ⟨b, off + i * 9 + 6, none⟩ = some (.slice t1 t.len t3) ∧ w'.cell? ⟨b, off + i * 9 + 7, none⟩ = some (.slice e1 e.len e3)) (by kernel_rfl) ?_ (fun hHeld => ?_)
                · (try dsimp only)
                  exact (unhide HB2)
                refine lst0 34 (by kernel_rfl) ?_
                refine tkA 0 25 1 ?_
                refine tkA 1 26 3 ?_
                refine tkA 2 27 7 ?_
                refine tkA 3 28 15 ?_
                refine tkA 4 29 31 ?_
                refine tkA 5 30 63 ?_
                refine tkA 6 31 127 ?_
                refine tkA 7 32 255 ?_
                refine tkA 8 33 511 ?_
                refine tkA 9 34 1023 ?_
                refine tkA 10 35 2047 ?_
                refine tkA 11 36 4095 ?_
                refine tkA 12 37 8191 ?_
                refine tkA 13 38 16383 ?_
                refine tkA 14 39 32767 ?_
                refine tkA 15 40 65535 ?_
                refine tkA 16 41 131071 ?_
                refine tkA 17 42 262143 ?_
                refine tkA 18 43 524287 ?_
                refine tkA 19 44 1048575 ?_
                refine tkA 20 45 2097151 ?_
                refine tkA 21 46 4194303 ?_
                refine tkA 22 47 8388607 ?_
                refine tkA 23 48 16777215 ?_
                refine tkA 24 49 33554431 ?_
                refine tkA 25 50 67108863 ?_
                refine tkU 26 51 134217727 ?_
                refine tkU 27 52 268435455 ?_
                refine tkU 28 53 536870911 ?_
                refine tkU 29 54 1073741823 ?_
                refine tkU 30 55 2147483647 ?_
                refine tkU 31 56 4294967295 ?_
                refine tkA 32 57 8589934591 ?_
                refine tkA 33 58 17179869183 ?_
                refine wpAnyH_done (by kernel_rfl) ?_ _
                clear hHeld
                go_wp2_with fail
                all_goals
                  have h2 := unhide HS2
                  exact unhide HFin _ _ ((unhide HF).bel (below_drewN (Below.refl _ _) _)) (by omega)
        · have hq1 : ¬ (t.dep : Int) < (e.dep : Int) := by omega
          subst hm
          refine wp_region_held_drew (S := fun w' => w'.cell? ⟨b, off + i * 9, none⟩ = some (.int .i64 op) ∧ w'.cell? ⟨b, off + i * 9 + 6, none⟩ = some (.slice t1 t.len t3) ∧ w'.cell? ⟨b, off + i * 9 + 7, none⟩ = some (.slice e1 e.len e3)) (by kernel_rfl) ?_ (fun hHeld => ?_)
          · (try dsimp only)
            exact unhide HB
          refine lst0 14 (by kernel_rfl) ?_
          refine tkA 0 12 1 ?_
          refine tkA 1 13 3 ?_
          refine tkA 2 14 7 ?_
          refine tkA 3 15 15 ?_
          refine tkA 4 16 31 ?_
          refine tkA 6 18 95 ?_
          refine tkA 7 19 223 ?_
          refine tkA 8 20 479 ?_
          refine tkA 9 21 991 ?_
          refine tkA 10 22 2015 ?_
          refine rdA 5 2047 (fun Kk hKk => ?_)
          go_simp
          refine (unhide HI t _ _ _ (by omega) (by omega) (unhide HT)).mono ?_
          rintro _ w3 ⟨rfl, hF3⟩
          have HB := hide (show w3.cell? ⟨b, off + i * 9, none⟩ = some (.int .i64 op) ∧ w3.cell? ⟨b, off + i * 9 + 6, none⟩ = some (.slice t1 t.len t3) ∧ w3.cell? ⟨b, off + i * 9 + 7, none⟩ = some (.slice e1 e.len e3) from ⟨hF3.keep (unhide HB).1 (by simp), hF3.keep (unhide HB).2.1 (by simp), hF3.keep (unhide HB).2.2 (by simp)⟩)
          have HT := hide ((unhide HT).fr hF3 (by simp))
          have HEl := hide ((unhide HEl).fr hF3 (by simp))
          have HF := hide ((unhide HF).trans hF3)
          clear hF3
          (try go_wp2_with fail)
          refine hKk.out _ _ ?_ (fun hHeld => ?_)
          · (try dsimp only)
            exact unhide HB
          clear hKk Kk
          (try simp only [List.setIfInBounds_toArray, List.set_cons_zero, List.set_cons_succ])
          refine rdA 11 4095 (fun Kk hKk => ?_)
          go_simp
          refine (unhide HI e _ _ _ (by omega) (by omega) (unhide HEl)).mono ?_
          rintro _ w4 ⟨rfl, hF3⟩
          have HB := hide (show w4.cell? ⟨b, off + i * 9, none⟩ = some (.int .i64 op) ∧ w4.cell? ⟨b, off + i * 9 + 6, none⟩ = some (.slice t1 t.len t3) ∧ w4.cell? ⟨b, off + i * 9 + 7, none⟩ = some (.slice e1 e.len e3) from ⟨hF3.keep (unhide HB).1 (by simp), hF3.keep (unhide HB).2.1 (by simp), hF3.keep (unhide HB).2.2 (by simp)⟩)
          have HT := hide ((unhide HT).fr hF3 (by simp))
          have HEl := hide ((unhide HEl).fr hF3 (by simp))
          have HF := hide ((unhide HF).trans hF3)
          clear hF3
          (try go_wp2_with fail)
          refine hKk.out _ _ ?_ (fun hHeld => ?_)
          · (try dsimp only)
            exact unhide HB
          clear hKk Kk
          (try simp only [List.setIfInBounds_toArray, List.set_cons_zero, List.set_cons_succ])
          refine rdA 12 8191 (fun Kk hKk => ?_)
          go_simp
          refine hKk.out _ _ ?_ (fun hHeld => ?_)
          · (try dsimp only)
            exact unhide HB
          clear hKk Kk
          (try simp only [List.setIfInBounds_toArray, List.set_cons_zero, List.set_cons_succ])
          refine tkA 13 5 16383 ?_
          refine wpAnyH_done (by kernel_rfl) ?_ _
          obtain ⟨g0, g6, g7⟩ := unhide HB
          have hm0 : t.dep ≤ T.size := by omega
          have iw : IntKind.i64.wrap ((t.dep : Int) + 1) = (t.dep : Int) + 1 := i64_id (by omega) (by omega)
          have il : IntKind.i64.wrap ((t.len : Int) + (e.len : Int)) = (t.len : Int) + (e.len : Int) := i64_id (by omega) (by omega)
          have HFin : Hid (∀ (w' : World) (z : Int), Fr [] W w' → z = ((T.pre (i + 1)).dep : Int) → (∃ i' : Nat, i' ≤ T.len ∧ Value.int .i64 ((i : Int) + 1) = .int .i64 (i' : Int) ∧ Value.int .i64 z = .int .i64 ((T.pre i').dep : Int) ∧ Fr [] W w') ∧ T.len - (intOf (Value.int .i64 ((i : Int) + 1))).toNat < T.len - (intOf (Value.int .i64 (i : Int))).toNat) := hide fun w' z hF hz => ⟨⟨i + 1, by omega, by go_num, by rw [hz], hF⟩, by simp [intOf]; omega⟩
          clear g0 g6 g7
          clear hHeld
          by_cases c1 : 0 < t.dep
          · have c1' : (0 : Int) < (t.dep : Int) := by omega
            have HS2 : Hid ((T.pre (i + 1)).dep = max (T.pre i).dep (t.dep + 1)) := hide (by rw [unhide HSc, if_pos (Or.inl c1)])
            have HB2 := hide (show w4.drew.cell? ⟨b, off + i * 9, none⟩ = some (.int .i64 op) ∧ w4.drew.cell? ⟨b, off + i * 9 + 6, none⟩ = some (.slice t1 t.len t3) ∧ w4.drew.cell? ⟨b, off + i * 9 + 7, none⟩ = some (.slice e1 e.len e3) from unhide HB)
            go_wp2_with fail
            refine wp_region_held_drew (S := fun w' => w'.cell? ⟨b, off + i * 9, none⟩ = some (.int .i64 op) ∧ w'.cell? ⟨b, off + i * 9 + 6, none⟩ = some (.slice t1 t.len t3) ∧ w'.cell? ⟨b, off + i * 9 + 7, none⟩ = some (.slice e1 e.len e3)) (by kernel_rfl) ?_ (fun hHeld => ?_)
            · (try dsimp only)
              exact (unhide HB2)
            refine lst0 34 (by kernel_rfl) ?_
            refine tkA 0 25 1 ?_
            refine tkA 1 26 3 ?_
            refine tkA 2 27 7 ?_
            refine tkU 3 28 15 ?_
            refine tkU 4 29 31 ?_
            refine tkU 5 30 63 ?_
            refine tkU 6 31 127 ?_
            refine tkU 7 32 255 ?_
            refine tkU 8 33 511 ?_
            refine tkU 9 34 1023 ?_
            refine tkU 10 35 2047 ?_
            refine tkU 11 36 4095 ?_
            refine tkU 12 37 8191 ?_
            refine tkU 13 38 16383 ?_
            refine tkU 14 39 32767 ?_
            refine tkU 15 40 65535 ?_
            refine tkU 16 41 131071 ?_
            refine tkA 17 42 262143 ?_
            refine tkA 18 43 524287 ?_
            refine tkU 19 44 1048575 ?_
            refine tkU 20 45 2097151 ?_
            refine tkU 21 46 4194303 ?_
            refine tkU 22 47 8388607 ?_
            refine tkU 23 48 16777215 ?_
            refine tkU 24 49 33554431 ?_
            refine tkU 25 50 67108863 ?_
            refine tkU 26 51 134217727 ?_
            refine tkU 27 52 268435455 ?_
            refine tkU 28 53 536870911 ?_
            refine tkU 29 54 1073741823 ?_
            refine tkU 30 55 2147483647 ?_
            refine tkU 31 56 4294967295 ?_
            refine tkU 32 57 8589934591 ?_
            refine tkA 33 58 17179869183 ?_
            refine wpAnyH_done (by kernel_rfl) ?_ _
            clear hHeld
            go_wp2_with fail
            all_goals
              have h2 := unhide HS2
              exact unhide HFin _ _ ((unhide HF).bel (below_drewN (Below.refl _ _) _)) (by omega)
          · by_cases c2 : 0 < t.len + e.len
            · have c1' : ¬ (0 : Int) < (t.dep : Int) := by omega
              have c2' : (0 : Int) < (t.len : Int) + (e.len : Int) := by omega
              have HS2 : Hid ((T.pre (i + 1)).dep = max (T.pre i).dep (t.dep + 1)) := hide (by rw [unhide HSc, if_pos (Or.inr (Or.inl c2))])
              have HB2 := hide (show w4.drew.cell? ⟨b, off + i * 9, none⟩ = some (.int .i64 op) ∧ w4.drew.cell? ⟨b, off + i * 9 + 6, none⟩ = some (.slice t1 t.len t3) ∧ w4.drew.cell? ⟨b, off + i * 9 + 7, none⟩ = some (.slice e1 e.len e3) from unhide HB)
              go_wp2_with fail
              refine wp_region_held_drew (S := fun w' => w'.cell? ⟨b, off + i * 9, none⟩ = some (.int .i64 op) ∧ w'.cell? ⟨b, off + i * 9 + 6, none⟩ = some (.slice t1 t.len t3) ∧ w'.cell? ⟨b, off + i * 9 + 7, none⟩ = some (.slice e1 e.len e3)) (by kernel_rfl) ?_ (fun hHeld => ?_)
              · (try dsimp only)
                exact (unhide HB2)
              refine lst0 34 (by kernel_rfl) ?_
              refine tkA 0 25 1 ?_
              refine tkA 1 26 3 ?_
              refine tkA 2 27 7 ?_
              refine tkA 3 28 15 ?_
              refine tkA 4 29 31 ?_
              refine tkA 5 30 63 ?_
              refine tkA 6 31 127 ?_
              refine tkA 7 32 255 ?_
              refine tkA 8 33 511 ?_
              refine tkA 9 34 1023 ?_
              refine tkA 10 35 2047 ?_
              refine tkA 11 36 4095 ?_
              refine tkA 12 37 8191 ?_
              refine tkA 13 38 16383 ?_
              refine tkA 14 39 32767 ?_
              refine tkA 15 40 65535 ?_
              refine tkA 16 41 131071 ?_
              refine tkA 17 42 262143 ?_
              refine tkA 18 43 524287 ?_
              refine tkU 19 44 1048575 ?_
              refine tkU 20 45 2097151 ?_
              refine tkU 21 46 4194303 ?_
              refine tkU 22 47 8388607 ?_
              refine tkU 23 48 16777215 ?_
              refine tkU 24 49 33554431 ?_
              refine tkU 25 50 67108863 ?_
              refine tkU 26 51 134217727 ?_
              refine tkU 27 52 268435455 ?_
              refine tkU 28 53 536870911 ?_
              refine tkU 29 54 1073741823 ?_
              refine tkU 30 55 2147483647 ?_
              refine tkU 31 56 4294967295 ?_
              refine tkU 32 57 8589934591 ?_
              refine tkA 33 58 17179869183 ?_
              refine wpAnyH_done (by kernel_rfl) ?_ _
              clear hHeld
              go_wp2_with fail
              all_goals
                have h2 := unhide HS2
                exact unhide HFin _ _ ((unhide HF).bel (below_drewN (Below.refl _ _) _)) (by omega)
            · by_cases c3 : 2 ≤ op
              · by_cases c4 : op ≤ 4
                · have c1' : ¬ (0 : Int) < (t.dep : Int) := by omega
                  have c2' : decide ((0 : Int) < (t.len : Int) + (e.len : Int)) = false := decide_eq_false (by omega)
                  have HS2 : Hid ((T.pre (i + 1)).dep = max (T.pre i).dep (t.dep + 1)) := hide (by rw [unhide HSc, if_pos (Or.inr (Or.inr ⟨c3, c4⟩))])
                  have HB2 := hide (show w4.drew.cell? ⟨b, off + i * 9, none⟩ = some (.int .i64 op) ∧ w4.drew.cell? ⟨b, off + i * 9 + 6, none⟩ = some (.slice t1 t.len t3) ∧ w4.drew.cell? ⟨b, off + i * 9 + 7, none⟩ = some (.slice e1 e.len e3) from unhide HB)
                  go_wp2_with fail
                  refine wp_region_held_drew (S := fun w' => w'.cell? ⟨b, off + i * 9, none⟩ = some (.int .i64 op) ∧ w'.cell? ⟨b, off + i * 9 + 6, none⟩ = some (.slice t1 t.len t3) ∧ w'.cell? ⟨b, off + i * 9 + 7, none⟩ = some (.slice e1 e.len e3)) (by kernel_rfl) ?_ (fun hHeld => ?_)
                  · (try dsimp only)
                    exact (unhide HB2)
                  refine lst0 34 (by kernel_rfl) ?_
                  refine tkA 0 25 1 ?_
                  refine tkA 1 26 3 ?_
                  refine tkA 2 27 7 ?_
                  refine tkA 3 28 15 ?_
                  refine tkA 4 29 31 ?_
                  refine tkA 5 30 63 ?_
                  refine tkA 6 31 127 ?_
                  refine tkA 7 32 255 ?_
                  refine tkA 8 33 511 ?_
                  refine tkA 9 34 1023 ?_
                  refine tkA 10 35 2047 ?_
                  refine tkA 11 36 4095 ?_
                  refine tkA 12 37 8191 ?_
                  refine tkA 13 38 16383 ?_
                  refine tkA 14 39 32767 ?_
                  refine tkA 15 40 65535 ?_
                  refine tkA 16 41 131071 ?_
                  refine tkA 17 42 262143 ?_
                  refine tkA 18 43 524287 ?_
                  refine tkA 19 44 1048575 ?_
                  refine tkA 20 45 2097151 ?_
                  refine tkA 21 46 4194303 ?_
                  refine tkA 22 47 8388607 ?_
                  refine tkA 23 48 16777215 ?_
                  refine tkA 24 49 33554431 ?_
                  refine tkA 25 50 67108863 ?_
                  refine tkA 26 51 134217727 ?_
                  refine tkA 27 52 268435455 ?_
                  refine tkA 28 53 536870911 ?_
                  refine tkA 29 54 1073741823 ?_
                  refine tkA 30 55 2147483647 ?_
                  refine tkA 31 56 4294967295 ?_
                  refine tkA 32 57 8589934591 ?_
                  refine tkA 33 58 17179869183 ?_
                  refine wpAnyH_done (by kernel_rfl) ?_ _
                  clear hHeld
                  go_wp2_with fail
                  all_goals
                    have h2 := unhide HS2
                    exact unhide HFin _ _ ((unhide HF).bel (below_drewN (Below.refl _ _) _)) (by omega)
                · have c1' : ¬ (0 : Int) < (t.dep : Int) := by omega
                  have c2' : decide ((0 : Int) < (t.len : Int) + (e.len : Int)) = false := decide_eq_false (by omega)
                  have c4' : decide (op ≤ 4) = false := decide_eq_false c4
                  have HS2 : Hid ((T.pre (i + 1)).dep = max (T.pre i).dep (t.dep)) := hide (by rw [unhide HSc, if_neg (by rintro (k | k | k) <;> omega)])
                  have HB2 := hide (show w4.drew.cell? ⟨b, off + i * 9, none⟩ = some (.int .i64 op) ∧ w4.drew.cell? ⟨b, off + i * 9 + 6, none⟩ = some (.slice t1 t.len t3) ∧ w4.drew.cell? ⟨b, off + i * 9 + 7, none⟩ = some (.slice e1 e.len e3) from unhide HB)
                  go_wp2_with fail
                  refine wp_region_held_drew (S := fun w' => w'.cell? ⟨b, off + i * 9, none⟩ = some (.int .i64 op) ∧ w'.cell? ⟨b, off + i * 9 + 6, none⟩ = some (.slice t1 t.len t3) ∧ w'.cell? ⟨b, off + i * 9 + 7, none⟩ = some (.slice e1 e.len e3)) (by kernel_rfl) ?_ (fun hHeld => ?_)
                  · (try dsimp only)
                    exact (unhide HB2)
                  refine lst0 34 (by kernel_rfl) ?_
                  refine tkA 0 25 1 ?_
                  refine tkA 1 26 3 ?_
                  refine tkA 2 27 7 ?_
                  refine tkA 3 28 15 ?_
                  refine tkA 4 29 31 ?_
                  refine tkA 5 30 63 ?_
                  refine tkA 6 31 127 ?_
                  refine tkA 7 32 255 ?_
                  refine tkA 8 33 511 ?_
                  refine tkA 9 34 1023 ?_
                  refine tkA 10 35 2047 ?_
                  refine tkA 11 36 4095 ?_
                  refine tkA 12 37 8191 ?_
                  refine tkA 13 38 16383 ?_
                  refine tkA 14 39 32767 ?_
                  refine tkA 15 40 65535 ?_
                  refine tkA 16 41 131071 ?_
                  refine tkA 17 42 262143 ?_
                  refine tkA 18 43 524287 ?_
                  refine tkA 19 44 1048575 ?_
                  refine tkA 20 45 2097151 ?_
                  refine tkA 21 46 4194303 ?_
                  refine tkA 22 47 8388607 ?_
                  refine tkA 23 48 16777215 ?_
                  refine tkA 24 49 33554431 ?_
                  refine tkA 25 50 67108863 ?_
                  refine tkA 26 51 134217727 ?_
                  refine tkA 27 52 268435455 ?_
                  refine tkA 28 53 536870911 ?_
                  refine tkA 29 54 1073741823 ?_
                  refine tkA 30 55 2147483647 ?_
                  refine tkA 31 56 4294967295 ?_
                  refine tkA 32 57 8589934591 ?_
                  refine tkA 33 58 17179869183 ?_
                  refine wpAnyH_done (by kernel_rfl) ?_ _
                  clear hHeld
                  go_wp2_with fail
                  all_goals
                    have h2 := unhide HS2
                    exact unhide HFin _ _ ((unhide HF).bel (below_drewN (Below.refl _ _) _)) (by omega)
              · have c1' : ¬ (0 : Int) < (t.dep : Int) := by omega
                have c2' : decide ((0 : Int) < (t.len : Int) + (e.len : Int)) = false := decide_eq_false (by omega)
                have c3' : decide (2 ≤ op) = false := decide_eq_false c3
                have HS2 : Hid ((T.pre (i + 1)).dep = max (T.pre i).dep (t.dep)) := hide (by rw [unhide HSc, if_neg (by rintro (k | k | k) <;> omega)])
                have HB2 := hide (show w4.drew.cell? ⟨b, off + i * 9, none⟩ = some (.int .i64 op) ∧ w4.drew.cell? ⟨b, off + i * 9 + 6, none⟩ = some (.slice t1 t.len t3) ∧ w4.drew.cell? ⟨b, off + i * 9 + 7, none⟩ = some (.slice e1 e.len e3) from unhide HB)
                go_wp2_with fail
                refine wp_region_held_drew (S := fun w' => w'.cell? ⟨b, off + i * 9, none⟩ = some (.int .i64 op) ∧ w'.cell? ⟨b, off + i * 9 + 6, none⟩ = some (.slice t1 t.len t3) ∧ w'.cell? ⟨b, off + i * 9 + 7, none⟩ = some (.slice e1 e.len e3)) (by kernel_rfl) ?_ (fun hHeld => ?_)
                · (try dsimp only)
                  exact (unhide HB2)
                refine lst0 34 (by kernel_rfl) ?_
                refine tkA 0 25 1 ?_
                refine tkA 1 26 3 ?_
                refine tkA 2 27 7 ?_
                refine tkA 3 28 15 ?_
                refine tkA 4 29 31 ?_
                refine tkA 5 30 63 ?_
                refine tkA 6 31 127 ?_
                refine tkA 7 32 255 ?_
                refine tkA 8 33 511 ?_
                refine tkA 9 34 1023 ?_
                refine tkA 10 35 2047 ?_
                refine tkA 11 36 4095 ?_
                refine tkA 12 37 8191 ?_
                refine tkA 13 38 16383 ?_
                refine tkA 14 39 32767 ?_
                refine tkA 15 40 65535 ?_
                refine tkA 16 41 131071 ?_
                refine tkA 17 42 262143 ?_
                refine tkA 18 43 524287 ?_
                refine tkA 19 44 1048575 ?_
                refine tkA 20 45 2097151 ?_
                refine tkA 21 46 4194303 ?_
                refine tkA 22 47 8388607 ?_
                refine tkA 23 48 16777215 ?_
                refine tkA 24 49 33554431 ?_
                refine tkA 25 50 67108863 ?_
                refine tkU 26 51 134217727 ?_
                refine tkU 27 52 268435455 ?_
                refine tkU 28 53 536870911 ?_
                refine tkU 29 54 1073741823 ?_
                refine tkU 30 55 2147483647 ?_
                refine tkU 31 56 4294967295 ?_
                refine tkA 32 57 8589934591 ?_
                refine tkA 33 58 17179869183 ?_
                refine wpAnyH_done (by kernel_rfl) ?_ _
                clear hHeld
                go_wp2_with fail
                all_goals
                  have h2 := unhide HS2
                  exact unhide HFin _ _ ((unhide HF).bel (below_drewN (Below.refl _ _) _)) (by omega)
    · obtain rfl : i = T.len := by omega
      rw [T.pre_all] at *
      have HF := hide hF
      clear hF
      go_wp2_with fail
      go_ret
      exact ⟨rfl, unhide HF⟩
theorem rdepth_any : ∀ n, PRd n
  | 0 => fun _ _ _ _ h _ _ => absurd h (Nat.not_lt_zero _)
  | n + 1 => fun _ _ _ _ h hz hh => rdepth_step (hide (rdepth_any n)) h hz hh
end Go.Proofs.YtalahdkgigcpfaaDoor
