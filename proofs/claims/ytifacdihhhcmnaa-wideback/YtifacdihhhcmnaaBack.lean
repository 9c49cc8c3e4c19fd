/- The statement WideBack: its walk. -/
import Derived.Test.YtifacdihhhcmnaaDiv
import Derived.Test.YtifacdihhhcmnaaLensB
namespace Go.Proofs.Ytifacdihhhcmnaa
open Go.RowKit

theorem div_ex (v : Nat) (b : Int) (w : World) (hv : W2 v) (b0 : 0 < b) (b1 : b < 18446744073709551616) :
    Calls Try.prog 29 #[.agg #[.int .u64 (hi v), .int .u64 (lo v)], .int .u64 b] w fun e w' => ∃ (q : Nat) (r : Int),
      e = .returned (.tuple #[.agg #[.int .u64 (hi q), .int .u64 (lo q)], .int .u64 r, .int .i64 0]) ∧ W2 q ∧ 0 ≤ r ∧ r < b ∧ q * b.toNat + r.toNat = v ∧ Below w.heap.size w w' := by
  refine (div_n v b w hv b0 b1).mono ?_
  rintro e w' ⟨rfl, hb⟩
  have h1 := Nat.mod_lt v (show 0 < b.toNat by omega)
  exact ⟨v / b.toNat, ((v % b.toNat : Nat) : Int), rfl, Nat.lt_of_le_of_lt (Nat.div_le_self _ _) hv, by omega, by omega, by rw [Int.toNat_natCast]; exact Nat.div_add_mod' _ _, hb⟩

/-- A quotient times what it is by, and the rest, word by word. -/
theorem back_div {v q : Nat} {b r : Int} (hv : W2 v) (e : q * b.toNat + r.toNat = v) :
    hi ((hi q).toNat * b.toNat) = 0 ∧ addN (addN (shlN (lo ((hi q).toNat * b.toNat)).toNat 64) ((lo q).toNat * b.toNat)) r.toNat = v := by
  unfold W2 at hv
  have e1 : q * b.toNat = (q / 18446744073709551616) * b.toNat * 18446744073709551616 + (q % 18446744073709551616) * b.toNat := by
    have : q = q / 18446744073709551616 * 18446744073709551616 + q % 18446744073709551616 := by omega
    conv => lhs; rw [this]
    rw [Nat.add_mul, Nat.mul_right_comm]
  unfold hi lo addN shlN
  rw [Int.toNat_natCast, Int.toNat_natCast, Int.toNat_natCast, show Int.toNat 64 = 64 from rfl, show (2 : Nat) ^ 64 = 18446744073709551616 from rfl]
  generalize (q / 18446744073709551616) * b.toNat = m at *
  generalize (q % 18446744073709551616) * b.toNat = k at *
  constructor
  · omega
  · omega

theorem back_add {v : Nat} (u : Nat) (hv : W2 v) (hu : W2 u) : subN (addN v u) u = v := by
  unfold W2 at hv hu
  unfold subN addN
  omega

theorem back_shift {v : Nat} {n : Int} (hn : 0 ≤ n) (h : n ≤ 128 - (Go.bitLen v : Int)) : shrN (shlN v n) n = v ∧ lostB (shlN v n) n = false := by
  rw [shlN_fits hn h]
  unfold shrN lostB
  constructor
  · exact Nat.mul_div_cancel _ (Nat.two_pow_pos _)
  · rw [Nat.mul_mod_left]; simp

/-- Three variables of two words each, behind a call that touches nothing old. -/
theorem keep6 {W w' : World} {b1 b2 b3 : Nat} {x0 x1 y0 y1 z0 z1 : Value} (hb : Below W.heap.size W w') (hz : b3 < W.heap.size) (h13 : b1 < b3) (h23 : b2 < b3)
    (h : W.cell? ⟨b1, 0, none⟩ = some x0 ∧ W.cell? ⟨b1, 1, none⟩ = some x1 ∧ W.cell? ⟨b2, 0, none⟩ = some y0 ∧ W.cell? ⟨b2, 1, none⟩ = some y1 ∧ W.cell? ⟨b3, 0, none⟩ = some z0 ∧ W.cell? ⟨b3, 1, none⟩ = some z1) :
    w'.cell? ⟨b1, 0, none⟩ = some x0 ∧ w'.cell? ⟨b1, 1, none⟩ = some x1 ∧ w'.cell? ⟨b2, 0, none⟩ = some y0 ∧ w'.cell? ⟨b2, 1, none⟩ = some y1 ∧ w'.cell? ⟨b3, 0, none⟩ = some z0 ∧ w'.cell? ⟨b3, 1, none⟩ = some z1 := by
  obtain ⟨h1, h2, h3, h4, h5, h6⟩ := h
  have a := keep2 hb (Nat.lt_trans h13 hz) ⟨h1, h2⟩
  have b := keep2 hb (Nat.lt_trans h23 hz) ⟨h3, h4⟩
  have c := keep2 hb hz ⟨h5, h6⟩
  exact ⟨a.1, a.2, b.1, b.2, c.1, c.2⟩

/-- What has come up so far, written out. -/
theorem wpAnyH_at {P : Program} {md : Region.Mode} {ops : Array Oper} {Q : Exit → Act → World → Prop} {S : World → Prop} {fuel : Nat} {listed : Array Bool} {a : Act} {w : World} (l : Array Bool) (h : listed = l)
    (k : wpAnyH P md ops Q S fuel l a w) : wpAnyH P md ops Q S fuel listed a w := by subst h; exact k

theorem field_0 (x y : Int) (w : World) : (Instr.field 24 (.agg #[.int .u64 x, .int .u64 y]) 0).run Try.prog w = .ok (.int .u64 x) w := by kernel_rfl
theorem field_1 (x y : Int) (w : World) : (Instr.field 24 (.agg #[.int .u64 x, .int .u64 y]) 1).run Try.prog w = .ok (.int .u64 y) w := by kernel_rfl

set_option linter.unusedSimpArgs false in
set_option maxRecDepth 100000 in
set_option maxHeartbeats 2000000 in
theorem back_any (v : Nat) (b n : Int) (w : World) (hv : W2 v) (b0 : 0 ≤ b) (b1 : b < 18446744073709551616) :
    Calls Try.prog 7 #[.agg #[.int .u64 (hi v), .int .u64 (lo v)], .int .u64 b, .int .i64 n] w fun e w' => e = .returned (.bool true) ∧ Below w.heap.size w w' := by
  have hB : W2 b.toNat := by unfold W2; omega
  have p1 : (hi (subN (addN v b.toNat) b.toNat) == hi v) = true := by rw [back_add _ hv hB]; simp
  have p2 : (lo (subN (addN v b.toNat) b.toNat) == lo v) = true := by rw [back_add _ hv hB]; simp
  have k0 := field_0
  have k1 := field_1
  go_enter Try.func7, Try.ntmps7
  go_wp2_with fail
  refine (awake_any _).mono ?_
  rintro e w1 ⟨rfl, hb1⟩
  have q : w1.cell? ⟨w.heap.size, 0, none⟩ = some (.int .u64 (hi v)) ∧ w1.cell? ⟨w.heap.size, 1, none⟩ = some (.int .u64 (lo v)) := keep2 hb1 (by simp) (by simp [go_sem])
  have hz1 : w.heap.size < w1.heap.size := by have := hb1.size; simp at this; omega
  obtain ⟨q0, q1⟩ := q
  go_wp2_with fail
  go_region_held3 (fun w' => w'.cell? ⟨w.heap.size, 0, none⟩ = some (.int .u64 (hi v)) ∧ w'.cell? ⟨w.heap.size, 1, none⟩ = some (.int .u64 (lo v))) (first | exact keep2 (by assumption) (by first | assumption | omega | (simp; omega)) (by assumption) | (simp [go_sem, q0, q1]; done))
    (first
      | (go_at_call 23; refine (of_n b _ b0 b1).mono ?_; rintro e w2 ⟨rfl, hb2⟩; have hz2 : w.heap.size < w2.heap.size := (by have := hb2.size; first | omega | (simp at this; omega)))
      | (go_at_call 16; refine (add_n v b.toNat _).mono ?_; rintro e w3 ⟨rfl, hb3⟩; have hz3 : w.heap.size < w3.heap.size := (by have := hb3.size; first | omega | (simp at this; omega)))
      | (go_at_call 18; refine (sub_n (addN v b.toNat) b.toNat _ hB).mono ?_; rintro e w4 ⟨rfl, hb4⟩; have hz4 : w.heap.size < w4.heap.size := (by have := hb4.size; first | omega | (simp at this; omega))))
  have h4 : w4.cell? ⟨w.heap.size, 0, none⟩ = some (.int .u64 (hi v)) ∧ w4.cell? ⟨w.heap.size, 1, none⟩ = some (.int .u64 (lo v)) := by assumption
  have BB : Below w.heap.size w w4 := bthen (bthen (bthen (bthen (bthen (below1 _ _) hb1).drew (by assumption)) hb3) hb2) hb4
  obtain ⟨r0, r1⟩ := h4
  clear hb2 hb3 hz3 hz2 p1 p2 q0 q1 hb4 hb1 hz1
  have HB1 := hide b1
  clear b1
  go_upto_if 25 with fail
  go_cut [7] (fun _ w5 => w5.cell? ⟨w.heap.size, 0, none⟩ = some (.int .u64 (hi v)) ∧ w5.cell? ⟨w.heap.size, 1, none⟩ = some (.int .u64 (lo v)) ∧ w.heap.size < w5.heap.size ∧ Below w.heap.size w w5)
  case first =>
    by_cases cb : 0 < b
    · go_wp2_with fail
      refine (div_ex v b _ hv cb (unhide HB1)).mono ?_
      rintro e w6 ⟨q, r, rfl, hq, hr0, hr1, hqr, hb6⟩
      obtain ⟨f1, f2⟩ := back_div hv hqr
      have F3 : (hi ((hi q).toNat * b.toNat) != 0) = false := by rw [f1]; rfl
      have F4 : (hi (addN (addN (shlN (lo ((hi q).toNat * b.toNat)).toNat 64) ((lo q).toNat * b.toNat)) r.toNat) == hi v) = true := by rw [f2]; simp
      have F5 : (lo (addN (addN (shlN (lo ((hi q).toNat * b.toNat)).toNat 64) ((lo q).toNat * b.toNat)) r.toNat) == lo v) = true := by rw [f2]; simp
      have F2 : decide (b ≤ r) = false := by simp; omega
      have HR1 := hide (show r < 18446744073709551616 by have := unhide HB1; omega)
      clear hqr f1 f2
      go_wp2_with fail
      refine (mul_n (hi q) b _ (hi_0 q) (hi_1 hq) b0 (unhide HB1)).mono ?_
      rintro e w7 ⟨rfl, hb7⟩
      go_wp2_with fail
      refine (of_n (lo ((hi q).toNat * b.toNat)) _ (lo_0 _) (lo_1 _)).mono ?_
      rintro e w8 ⟨rfl, hb8⟩
      go_wp2_with fail
      refine (left_n (lo ((hi q).toNat * b.toNat)).toNat 64 _ (by have := lo_1 ((hi q).toNat * b.toNat); unfold W2; omega)).mono ?_
      rintro e w9 ⟨rfl, hb9⟩
      generalize shlN (lo ((hi q).toNat * b.toNat)).toNat 64 = up at *
      have B69 : Below w6.heap.size w6 w9 := bthen (bthen (bthen (below1 _ _) hb7) hb8) hb9
      have hz6 : w.heap.size < w6.heap.size := by have := hb6.size; omega
      have h69 : w6.heap.size < w9.heap.size := by have := hb7.size; have := hb8.size; have := hb9.size; simp at *; omega
      have h09 : w.heap.size < w9.heap.size := by omega
      obtain ⟨c0, c1⟩ := keep2 hb6 hz4 ⟨r0, r1⟩
      obtain ⟨d0, d1⟩ := keep2 B69 hz6 ⟨c0, c1⟩
      obtain ⟨e0, e1⟩ : w9.cell? ⟨w6.heap.size, 0, none⟩ = some (.int .u64 (hi q)) ∧ w9.cell? ⟨w6.heap.size, 1, none⟩ = some (.int .u64 (lo q)) := keep2 (bthen (bthen hb7 hb8) hb9) (by simp) ⟨by simp [go_sem], by simp [go_sem]⟩
      go_wp2_with fail
      refine wp_region_held_drew (S := (fun w' => w'.cell? ⟨w.heap.size, 0, none⟩ = some (.int .u64 (hi v)) ∧ w'.cell? ⟨w.heap.size, 1, none⟩ = some (.int .u64 (lo v)) ∧ w'.cell? ⟨w6.heap.size, 0, none⟩ = some (.int .u64 (hi q)) ∧ w'.cell? ⟨w6.heap.size, 1, none⟩ = some (.int .u64 (lo q)) ∧ w'.cell? ⟨w9.heap.size, 0, none⟩ = some (.int .u64 (hi up)) ∧ w'.cell? ⟨w9.heap.size, 1, none⟩ = some (.int .u64 (lo up)))) (by kernel_rfl) ?_ (fun hHeld => ?_)
      · (try dsimp only)
        simp [go_sem, d0, d1, e0, e1, h09, h69]
      refine wpAnyH_at #[false, false, false, false, false, false, false, false, false, false, false, false, false, false, false, false, false, false, false, false, false, false, false, false, false, false, false, false] (by kernel_rfl) ?_
      refine wpAnyH_take (i := 0) (oi := { dst := some 40, op := _, type := _, pos := _, after := _, guard := _ }) (v := ?vv0) rfl (by kernel_rfl) (by kernel_rfl) (by kernel_rfl) (fun _ _ _ h => h) (Or.inl ⟨by rfl, ?hy0⟩) (by assumption) ?rest0
      case hy0 => ((intro w hSw; (try dsimp only at hSw); go_simp) <;> with_reducible rfl)
      case rest0 =>
        (try simp only [Act.put, List.setIfInBounds_toArray, List.set_cons_zero, List.set_cons_succ])
        refine wpAnyH_at #[true, false, false, false, false, false, false, false, false, false, false, false, false, false, false, false, false, false, false, false, false, false, false, false, false, false, false, false] (by kernel_rfl) ?_
        as_aux_lemma =>
          refine wpAnyH_take (i := 1) (oi := { dst := some 41, op := _, type := _, pos := _, after := _, guard := _ }) (v := ?vv1) rfl (by kernel_rfl) (by kernel_rfl) (by kernel_rfl) (fun _ _ _ h => h) (Or.inl ⟨by rfl, ?hy1⟩) (by assumption) ?rest1
          case hy1 => ((intro w hSw; (try dsimp only at hSw); go_simp) <;> with_reducible rfl)
          case rest1 =>
            (try simp only [Act.put, List.setIfInBounds_toArray, List.set_cons_zero, List.set_cons_succ])
            refine wpAnyH_at #[true, true, false, false, false, false, false, false, false, false, false, false, false, false, false, false, false, false, false, false, false, false, false, false, false, false, false, false] (by kernel_rfl) ?_
            as_aux_lemma =>
              refine wpAnyH_take (i := 2) (oi := { dst := some 42, op := _, type := _, pos := _, after := _, guard := _ }) (v := ?vv2) rfl (by kernel_rfl) (by kernel_rfl) (by kernel_rfl) (fun _ _ _ h => h) (Or.inl ⟨by rfl, ?hy2⟩) (by assumption) ?rest2
              case hy2 => ((intro w hSw; (try dsimp only at hSw); go_simp) <;> with_reducible rfl)
              case rest2 =>
                (try simp only [Act.put, List.setIfInBounds_toArray, List.set_cons_zero, List.set_cons_succ])
                refine wpAnyH_at #[true, true, true, false, false, false, false, false, false, false, false, false, false, false, false, false, false, false, false, false, false, false, false, false, false, false, false, false] (by kernel_rfl) ?_
                as_aux_lemma =>
                  refine wpAnyH_take (i := 3) (oi := { dst := some 43, op := _, type := _, pos := _, after := _, guard := _ }) (v := ?vv3) rfl (by kernel_rfl) (by kernel_rfl) (by kernel_rfl) (fun _ _ _ h => h) (Or.inl ⟨by rfl, ?hy3⟩) (by assumption) ?rest3
                  case hy3 => ((intro w hSw; (try dsimp only at hSw); go_simp) <;> with_reducible rfl)
                  case rest3 =>
                    (try simp only [Act.put, List.setIfInBounds_toArray, List.set_cons_zero, List.set_cons_succ])
                    refine wpAnyH_at #[true, true, true, true, false, false, false, false, false, false, false, false, false, false, false, false, false, false, false, false, false, false, false, false, false, false, false, false] (by kernel_rfl) ?_
                    as_aux_lemma =>
                      refine wpAnyH_take (i := 4) (oi := { dst := some 44, op := _, type := _, pos := _, after := _, guard := _ }) (v := ?vv4) rfl (by kernel_rfl) (by kernel_rfl) (by kernel_rfl) (fun _ _ _ h => h) (Or.inl ⟨by rfl, ?hy4⟩) (by assumption) ?rest4
                      case hy4 => ((intro w hSw; (try dsimp only at hSw); go_simp) <;> with_reducible rfl)
                      case rest4 =>
                        (try simp only [Act.put, List.setIfInBounds_toArray, List.set_cons_zero, List.set_cons_succ])
                        refine wpAnyH_at #[true, true, true, true, true, false, false, false, false, false, false, false, false, false, false, false, false, false, false, false, false, false, false, false, false, false, false, false] (by kernel_rfl) ?_
                        as_aux_lemma =>
                          refine wpAnyH_take (i := 5) (oi := { dst := some 45, op := _, type := _, pos := _, after := _, guard := _ }) (v := ?vv5) rfl (by kernel_rfl) (by kernel_rfl) (by kernel_rfl) (fun _ _ _ h => h) (Or.inl ⟨by rfl, ?hy5⟩) (by assumption) ?rest5
                          case hy5 => ((intro w hSw; (try dsimp only at hSw); go_simp) <;> with_reducible rfl)
                          case rest5 =>
                            (try simp only [Act.put, List.setIfInBounds_toArray, List.set_cons_zero, List.set_cons_succ])
                            refine wpAnyH_at #[true, true, true, true, true, true, false, false, false, false, false, false, false, false, false, false, false, false, false, false, false, false, false, false, false, false, false, false] (by kernel_rfl) ?_
                            as_aux_lemma =>
                              refine wpAnyH_take (i := 6) (oi := { dst := some 46, op := _, type := _, pos := _, after := _, guard := _ }) (v := ?vv6) rfl (by kernel_rfl) (by kernel_rfl) (by kernel_rfl) (fun _ _ _ h => h) (Or.inl ⟨by rfl, ?hy6⟩) (by assumption) ?rest6
                              case hy6 => ((intro w hSw; (try dsimp only at hSw); go_simp) <;> with_reducible rfl)
                              case rest6 =>
                                (try simp only [Act.put, List.setIfInBounds_toArray, List.set_cons_zero, List.set_cons_succ])
                                refine wpAnyH_at #[true, true, true, true, true, true, true, false, false, false, false, false, false, false, false, false, false, false, false, false, false, false, false, false, false, false, false, false] (by kernel_rfl) ?_
                                as_aux_lemma =>
                                  refine wpAnyH_take (i := 7) (oi := { dst := some 47, op := _, type := _, pos := _, after := _, guard := _ }) (v := ?vv7) rfl (by kernel_rfl) (by kernel_rfl) (by kernel_rfl) (fun _ _ _ h => h) (Or.inl ⟨by rfl, ?hy7⟩) (by assumption) ?rest7
                                  case hy7 => ((intro w hSw; (try dsimp only at hSw); go_simp) <;> with_reducible rfl)
                                  case rest7 =>
                                    (try simp only [Act.put, List.setIfInBounds_toArray, List.set_cons_zero, List.set_cons_succ])
                                    refine wpAnyH_at #[true, true, true, true, true, true, true, true, false, false, false, false, false, false, false, false, false, false, false, false, false, false, false, false, false, false, false, false] (by kernel_rfl) ?_
                                    as_aux_lemma =>
                                      refine wpAnyH_take (i := 8) (oi := { dst := some 48, op := _, type := _, pos := _, after := _, guard := _ }) (v := ?vv8) rfl (by kernel_rfl) (by kernel_rfl) (by kernel_rfl) (fun _ _ _ h => h) (Or.inl ⟨by rfl, ?hy8⟩) (by assumption) ?rest8
                                      case hy8 => ((intro w hSw; (try dsimp only at hSw); go_simp) <;> with_reducible rfl)
                                      case rest8 =>
                                        (try simp only [Act.put, List.setIfInBounds_toArray, List.set_cons_zero, List.set_cons_succ])
                                        refine wpAnyH_at #[true, true, true, true, true, true, true, true, true, false, false, false, false, false, false, false, false, false, false, false, false, false, false, false, false, false, false, false] (by kernel_rfl) ?_
                                        as_aux_lemma =>
                                          refine wpAnyH_take (i := 9) (oi := { dst := some 49, op := _, type := _, pos := _, after := _, guard := _ }) (v := ?vv9) rfl (by kernel_rfl) (by kernel_rfl) (by kernel_rfl) (fun _ _ _ h => h) (Or.inl ⟨by rfl, ?hy9⟩) (by assumption) ?rest9
                                          case hy9 => ((intro w hSw; (try dsimp only at hSw); go_simp) <;> with_reducible rfl)
                                          case rest9 =>
                                            (try simp only [Act.put, List.setIfInBounds_toArray, List.set_cons_zero, List.set_cons_succ])
                                            refine wpAnyH_at #[true, true, true, true, true, true, true, true, true, true, false, false, false, false, false, false, false, false, false, false, false, false, false, false, false, false, false, false] (by kernel_rfl) ?_
                                            as_aux_lemma =>
                                              refine wpAnyH_take (i := 10) (oi := { dst := some 50, op := _, type := _, pos := _, after := _, guard := _ }) (v := ?vv10) rfl (by kernel_rfl) (by kernel_rfl) (by kernel_rfl) (fun _ _ _ h => h) (Or.inl ⟨by rfl, ?hy10⟩) (by assumption) ?rest10
                                              case hy10 => ((intro w hSw; (try dsimp only at hSw); go_simp) <;> with_reducible rfl)
                                              case rest10 =>
                                                (try simp only [Act.put, List.setIfInBounds_toArray, List.set_cons_zero, List.set_cons_succ])
                                                refine wpAnyH_at #[true, true, true, true, true, true, true, true, true, true, true, false, false, false, false, false, false, false, false, false, false, false, false, false, false, false, false, false] (by kernel_rfl) ?_
                                                as_aux_lemma =>
                                                  refine wpAnyH_ready (rs := [11]) (by kernel_rfl) (by simp) ?_
                                                  refine AllReadyH.cons (o := { dst := some 51, op := _, type := _, pos := _, after := _, guard := _ }) rfl (fun K hK => ?_) AllReadyH.nil
                                                  go_simp
                                                  refine (mul_n (hi q) b _ (hi_0 q) (hi_1 hq) b0 (unhide HB1)).mono ?_
                                                  rintro e wa ⟨rfl, hba⟩
                                                  have hza : w9.heap.size < wa.heap.size := (by have := hba.size; first | omega | (simp at this; omega))
                                                  (try go_wp2_with fail)
                                                  refine hK.out _ _ ?_ (fun hHeld => ?_)
                                                  · (try dsimp only)
                                                    exact keep6 (by assumption) (by first | assumption | omega | (simp; done) | (simp; omega)) h09 h69 (by assumption)
                                                  clear hK K
                                                  (try simp only [Act.put, List.setIfInBounds_toArray, List.set_cons_zero, List.set_cons_succ])
                                                  refine wpAnyH_at #[true, true, true, true, true, true, true, true, true, true, true, true, false, false, false, false, false, false, false, false, false, false, false, false, false, false, false, false] (by kernel_rfl) ?_
                                                  as_aux_lemma =>
                                                    refine wpAnyH_take (i := 12) (oi := { dst := some 52, op := _, type := _, pos := _, after := _, guard := _ }) (v := ?vv12) rfl (by kernel_rfl) (by kernel_rfl) (by kernel_rfl) (fun _ _ _ h => h) (Or.inl ⟨by rfl, ?hy12⟩) (by assumption) ?rest12
                                                    case hy12 => ((intro w hSw; (try dsimp only at hSw); go_simp) <;> with_reducible rfl)
                                                    case rest12 =>
                                                      (try simp only [Act.put, List.setIfInBounds_toArray, List.set_cons_zero, List.set_cons_succ])
                                                      refine wpAnyH_at #[true, true, true, true, true, true, true, true, true, true, true, true, true, false, false, false, false, false, false, false, false, false, false, false, false, false, false, false] (by kernel_rfl) ?_
                                                      as_aux_lemma =>
                                                        refine wpAnyH_take (i := 13) (oi := { dst := some 53, op := _, type := _, pos := _, after := _, guard := _ }) (v := ?vv13) rfl (by kernel_rfl) (by kernel_rfl) (by kernel_rfl) (fun _ _ _ h => h) (Or.inl ⟨by rfl, ?hy13⟩) (by assumption) ?rest13
                                                        case hy13 => ((intro w hSw; (try dsimp only at hSw); go_simp) <;> with_reducible rfl)
                                                        case rest13 =>
                                                          (try simp only [Act.put, List.setIfInBounds_toArray, List.set_cons_zero, List.set_cons_succ])
                                                          refine wpAnyH_at #[true, true, true, true, true, true, true, true, true, true, true, true, true, true, false, false, false, false, false, false, false, false, false, false, false, false, false, false] (by kernel_rfl) ?_
                                                          as_aux_lemma =>
                                                            refine wpAnyH_take (i := 14) (oi := { dst := some 54, op := _, type := _, pos := _, after := _, guard := _ }) (v := ?vv14) rfl (by kernel_rfl) (by kernel_rfl) (by kernel_rfl) (fun _ _ _ h => h) (Or.inl ⟨by rfl, ?hy14⟩) (by assumption) ?rest14
                                                            case hy14 => ((intro w hSw; (try dsimp only at hSw); go_simp) <;> with_reducible rfl)
                                                            case rest14 =>
                                                              (try simp only [Act.put, List.setIfInBounds_toArray, List.set_cons_zero, List.set_cons_succ])
                                                              refine wpAnyH_at #[true, true, true, true, true, true, true, true, true, true, true, true, true, true, true, false, false, false, false, false, false, false, false, false, false, false, false, false] (by kernel_rfl) ?_
                                                              as_aux_lemma =>
                                                                refine wpAnyH_take (i := 15) (oi := { dst := some 55, op := _, type := _, pos := _, after := _, guard := _ }) (v := ?vv15) rfl (by kernel_rfl) (by kernel_rfl) (by kernel_rfl) (fun _ _ _ h => h) (Or.inl ⟨by rfl, ?hy15⟩) (by assumption) ?rest15
                                                                case hy15 => ((intro w hSw; (try dsimp only at hSw); go_simp) <;> with_reducible rfl)
                                                                case rest15 =>
                                                                  (try simp only [Act.put, List.setIfInBounds_toArray, List.set_cons_zero, List.set_cons_succ])
                                                                  refine wpAnyH_at #[true, true, true, true, true, true, true, true, true, true, true, true, true, true, true, true, false, false, false, false, false, false, false, false, false, false, false, false] (by kernel_rfl) ?_
                                                                  as_aux_lemma =>
                                                                    refine wpAnyH_take (i := 16) (oi := { dst := some 56, op := _, type := _, pos := _, after := _, guard := _ }) (v := ?vv16) rfl (by kernel_rfl) (by kernel_rfl) (by kernel_rfl) (fun _ _ _ h => h) (Or.inl ⟨by rfl, ?hy16⟩) (by assumption) ?rest16
                                                                    case hy16 => ((intro w hSw; (try dsimp only at hSw); go_simp) <;> with_reducible rfl)
                                                                    case rest16 =>
                                                                      (try simp only [Act.put, List.setIfInBounds_toArray, List.set_cons_zero, List.set_cons_succ])
                                                                      refine wpAnyH_at #[true, true, true, true, true, true, true, true, true, true, true, true, true, true, true, true, true, false, false, false, false, false, false, false, false, false, false, false] (by kernel_rfl) ?_
                                                                      as_aux_lemma =>
                                                                        refine wpAnyH_take (i := 17) (oi := { dst := some 57, op := _, type := _, pos := _, after := _, guard := _ }) (v := ?vv17) rfl (by kernel_rfl) (by kernel_rfl) (by kernel_rfl) (fun _ _ _ h => h) (Or.inl ⟨by rfl, ?hy17⟩) (by assumption) ?rest17
                                                                        case hy17 => ((intro w hSw; (try dsimp only at hSw); go_simp) <;> with_reducible rfl)
                                                                        case rest17 =>
                                                                          (try simp only [Act.put, List.setIfInBounds_toArray, List.set_cons_zero, List.set_cons_succ])
                                                                          refine wpAnyH_at #[true, true, true, true, true, true, true, true, true, true, true, true, true, true, true, true, true, true, false, false, false, false, false, false, false, false, false, false] (by kernel_rfl) ?_
                                                                          as_aux_lemma =>
                                                                            refine wpAnyH_take (i := 18) (oi := { dst := some 58, op := _, type := _, pos := _, after := _, guard := _ }) (v := ?vv18) rfl (by kernel_rfl) (by kernel_rfl) (by kernel_rfl) (fun _ _ _ h => h) (Or.inl ⟨by rfl, ?hy18⟩) (by assumption) ?rest18
                                                                            case hy18 => ((intro w hSw; (try dsimp only at hSw); go_simp) <;> with_reducible rfl)
                                                                            case rest18 =>
                                                                              (try simp only [Act.put, List.setIfInBounds_toArray, List.set_cons_zero, List.set_cons_succ])
                                                                              refine wpAnyH_at #[true, true, true, true, true, true, true, true, true, true, true, true, true, true, true, true, true, true, true, false, false, false, false, false, false, false, false, false] (by kernel_rfl) ?_
                                                                              as_aux_lemma =>
                                                                                refine wpAnyH_take (i := 19) (oi := { dst := some 59, op := _, type := _, pos := _, after := _, guard := _ }) (v := ?vv19) rfl (by kernel_rfl) (by kernel_rfl) (by kernel_rfl) (fun _ _ _ h => h) (Or.inl ⟨by rfl, ?hy19⟩) (by assumption) ?rest19
                                                                                case hy19 => ((intro w hSw; (try dsimp only at hSw); go_simp) <;> with_reducible rfl)
                                                                                case rest19 =>
                                                                                  (try simp only [Act.put, List.setIfInBounds_toArray, List.set_cons_zero, List.set_cons_succ])
                                                                                  refine wpAnyH_at #[true, true, true, true, true, true, true, true, true, true, true, true, true, true, true, true, true, true, true, true, false, false, false, false, false, false, false, false] (by kernel_rfl) ?_
                                                                                  as_aux_lemma =>
                                                                                    refine wpAnyH_take (i := 22) (oi := { dst := some 62, op := _, type := _, pos := _, after := _, guard := _ }) (v := ?vv22) rfl (by kernel_rfl) (by kernel_rfl) (by kernel_rfl) (fun _ _ _ h => h) (Or.inl ⟨by rfl, ?hy22⟩) (by assumption) ?rest22
                                                                                    case hy22 => ((intro w hSw; (try dsimp only at hSw); go_simp) <;> with_reducible rfl)
                                                                                    case rest22 =>
                                                                                      (try simp only [Act.put, List.setIfInBounds_toArray, List.set_cons_zero, List.set_cons_succ])
                                                                                      refine wpAnyH_at #[true, true, true, true, true, true, true, true, true, true, true, true, true, true, true, true, true, true, true, true, false, false, true, false, false, false, false, false] (by kernel_rfl) ?_
                                                                                      as_aux_lemma =>
                                                                                        refine wpAnyH_take (i := 25) (oi := { dst := some 65, op := _, type := _, pos := _, after := _, guard := _ }) (v := ?vv25) rfl (by kernel_rfl) (by kernel_rfl) (by kernel_rfl) (fun _ _ _ h => h) (Or.inl ⟨by rfl, ?hy25⟩) (by assumption) ?rest25
                                                                                        case hy25 => ((intro w hSw; (try dsimp only at hSw); go_simp) <;> with_reducible rfl)
                                                                                        case rest25 =>
                                                                                          (try simp only [Act.put, List.setIfInBounds_toArray, List.set_cons_zero, List.set_cons_succ])
                                                                                          refine wpAnyH_at #[true, true, true, true, true, true, true, true, true, true, true, true, true, true, true, true, true, true, true, true, false, false, true, false, false, true, false, false] (by kernel_rfl) ?_
                                                                                          as_aux_lemma =>
                                                                                            refine wpAnyH_ready (rs := [20]) (by kernel_rfl) (by simp) ?_
                                                                                            refine AllReadyH.cons (o := { dst := some 60, op := _, type := _, pos := _, after := _, guard := _ }) rfl (fun K hK => ?_) AllReadyH.nil
                                                                                            go_simp
                                                                                            refine (mul_n (lo q) b _ (lo_0 q) (lo_1 q) b0 (unhide HB1)).mono ?_
                                                                                            rintro e wb ⟨rfl, hbb⟩
                                                                                            have hzb : w9.heap.size < wb.heap.size := (by have := hbb.size; first | omega | (simp at this; omega))
                                                                                            (try go_wp2_with fail)
                                                                                            refine hK.out _ _ ?_ (fun hHeld => ?_)
                                                                                            · (try dsimp only)
                                                                                              exact keep6 (by assumption) (by first | assumption | omega | (simp; done) | (simp; omega)) h09 h69 (by assumption)
                                                                                            clear hK K
                                                                                            (try simp only [Act.put, List.setIfInBounds_toArray, List.set_cons_zero, List.set_cons_succ])
                                                                                            refine wpAnyH_at #[true, true, true, true, true, true, true, true, true, true, true, true, true, true, true, true, true, true, true, true, true, false, true, false, false, true, false, false] (by kernel_rfl) ?_
                                                                                            as_aux_lemma =>
                                                                                              refine wpAnyH_ready (rs := [21]) (by kernel_rfl) (by simp) ?_
                                                                                              refine AllReadyH.cons (o := { dst := some 61, op := _, type := _, pos := _, after := _, guard := _ }) rfl (fun K hK => ?_) AllReadyH.nil
                                                                                              go_simp
                                                                                              refine (add_n up ((lo q).toNat * b.toNat) _).mono ?_
                                                                                              rintro e wd ⟨rfl, hbd⟩
                                                                                              have hzd : w9.heap.size < wd.heap.size := (by have := hbd.size; first | omega | (simp at this; omega))
                                                                                              generalize addN up ((lo q).toNat * b.toNat) = s1 at *
                                                                                              (try go_wp2_with fail)
                                                                                              refine hK.out _ _ ?_ (fun hHeld => ?_)
                                                                                              · (try dsimp only)
                                                                                                exact keep6 (by assumption) (by first | assumption | omega | (simp; done) | (simp; omega)) h09 h69 (by assumption)
                                                                                              clear hK K
                                                                                              (try simp only [Act.put, List.setIfInBounds_toArray, List.set_cons_zero, List.set_cons_succ])
                                                                                              refine wpAnyH_at #[true, true, true, true, true, true, true, true, true, true, true, true, true, true, true, true, true, true, true, true, true, true, true, false, false, true, false, false] (by kernel_rfl) ?_
                                                                                              as_aux_lemma =>
                                                                                                refine wpAnyH_ready (rs := [23]) (by kernel_rfl) (by simp) ?_
                                                                                                refine AllReadyH.cons (o := { dst := some 63, op := _, type := _, pos := _, after := _, guard := _ }) rfl (fun K hK => ?_) AllReadyH.nil
                                                                                                go_simp
                                                                                                refine (of_n r _ hr0 (unhide HR1)).mono ?_
                                                                                                rintro e we ⟨rfl, hbe⟩
                                                                                                have hze : w9.heap.size < we.heap.size := (by have := hbe.size; first | omega | (simp at this; omega))
                                                                                                (try go_wp2_with fail)
                                                                                                refine hK.out _ _ ?_ (fun hHeld => ?_)
                                                                                                · (try dsimp only)
                                                                                                  exact keep6 (by assumption) (by first | assumption | omega | (simp; done) | (simp; omega)) h09 h69 (by assumption)
                                                                                                clear hK K
                                                                                                (try simp only [Act.put, List.setIfInBounds_toArray, List.set_cons_zero, List.set_cons_succ])
                                                                                                refine wpAnyH_at #[true, true, true, true, true, true, true, true, true, true, true, true, true, true, true, true, true, true, true, true, true, true, true, true, false, true, false, false] (by kernel_rfl) ?_
                                                                                                as_aux_lemma =>
                                                                                                  refine wpAnyH_ready (rs := [24]) (by kernel_rfl) (by simp) ?_
                                                                                                  refine AllReadyH.cons (o := { dst := some 64, op := _, type := _, pos := _, after := _, guard := _ }) rfl (fun K hK => ?_) AllReadyH.nil
                                                                                                  go_simp
                                                                                                  refine (add_n s1 r.toNat _).mono ?_
                                                                                                  rintro e wc ⟨rfl, hbc⟩
                                                                                                  have hzc : w9.heap.size < wc.heap.size := (by have := hbc.size; first | omega | (simp at this; omega))
                                                                                                  generalize addN s1 r.toNat = s2 at *
                                                                                                  (try go_wp2_with fail)
                                                                                                  refine hK.out _ _ ?_ (fun hHeld => ?_)
                                                                                                  · (try dsimp only)
                                                                                                    exact keep6 (by assumption) (by first | assumption | omega | (simp; done) | (simp; omega)) h09 h69 (by assumption)
                                                                                                  clear hK K
                                                                                                  (try simp only [Act.put, List.setIfInBounds_toArray, List.set_cons_zero, List.set_cons_succ])
                                                                                                  refine wpAnyH_at #[true, true, true, true, true, true, true, true, true, true, true, true, true, true, true, true, true, true, true, true, true, true, true, true, true, true, false, false] (by kernel_rfl) ?_
                                                                                                  as_aux_lemma =>
                                                                                                    refine wpAnyH_take (i := 26) (oi := { dst := some 66, op := _, type := _, pos := _, after := _, guard := _ }) (v := ?vv26) rfl (by kernel_rfl) (by kernel_rfl) (by kernel_rfl) (fun _ _ _ h => h) (Or.inl ⟨by rfl, ?hy26⟩) (by assumption) ?rest26
                                                                                                    case hy26 => ((intro w hSw; (try dsimp only at hSw); go_simp) <;> with_reducible rfl)
                                                                                                    case rest26 =>
                                                                                                      (try simp only [Act.put, List.setIfInBounds_toArray, List.set_cons_zero, List.set_cons_succ])
                                                                                                      refine wpAnyH_at #[true, true, true, true, true, true, true, true, true, true, true, true, true, true, true, true, true, true, true, true, true, true, true, true, true, true, true, false] (by kernel_rfl) ?_
                                                                                                      as_aux_lemma =>
                                                                                                        refine wpAnyH_take (i := 27) (oi := { dst := some 67, op := _, type := _, pos := _, after := _, guard := _ }) (v := ?vv27) rfl (by kernel_rfl) (by kernel_rfl) (by kernel_rfl) (fun _ _ _ h => h) (Or.inl ⟨by rfl, ?hy27⟩) (by assumption) ?rest27
                                                                                                        case hy27 => ((intro w hSw; (try dsimp only at hSw); go_simp) <;> with_reducible rfl)
                                                                                                        case rest27 =>
                                                                                                          (try simp only [Act.put, List.setIfInBounds_toArray, List.set_cons_zero, List.set_cons_succ])
                                                                                                          refine wpAnyH_at #[true, true, true, true, true, true, true, true, true, true, true, true, true, true, true, true, true, true, true, true, true, true, true, true, true, true, true, true] (by kernel_rfl) ?_
                                                                                                          as_aux_lemma =>
                                                                                                            refine wpAnyH_done (by kernel_rfl) ?_ _
                                                                                                            as_aux_lemma =>
                                                                                                              have BC : Below w.heap.size w wc := bthen (bthen (bthen (bthen (bthen (balloc (bthen (bthen BB hb6) B69) _).drew hba) hbb) hbd) hbe) hbc
                                                                                                              have HZ : w.heap.size < wc.heap.size := Nat.lt_trans h09 hzc
                                                                                                              go_wp2_with fail
                                                                                                              as_aux_lemma =>
                                                                                                                go_meet
                                                                                                                case rel => exact ⟨hHeld.1, hHeld.2.1, HZ, BC⟩
    · go_wp2_with fail
      go_meet
      case rel => exact ⟨r0, r1, hz4, BB⟩
  case rest =>
    as_aux_lemma =>
      obtain ⟨r0, r1, hz5, B5⟩ := hcut
      have hL : (Go.bitLen v : Int) ≤ 128 := by have := bitLen_128 hv; omega
      by_cases cn : n < 0
      · go_wp2_with fail
        go_ret
        exact ⟨rfl, B5⟩
      by_cases ck : 128 - (Go.bitLen v : Int) < n
      · go_wp2_with fail
        refine (len_n v _ hv).mono ?_
        rintro e w6 ⟨rfl, hb6⟩
        go_wp2_with fail
        go_ret
        exact ⟨rfl, bthen B5 hb6⟩
      · obtain ⟨g1, g2⟩ := back_shift (v := v) (n := n) (by omega) (by omega)
        have G1 : (hi (shrN (shlN v n) n) == hi v) = true := by rw [g1]; simp
        have G2 : (lo (shrN (shlN v n) n) == lo v) = true := by rw [g1]; simp
        clear g1
        have G3 := hide g2
        clear g2
        go_wp2_with fail
        refine (len_n v _ hv).mono ?_
        rintro e w6 ⟨rfl, hb6⟩
        obtain ⟨c0, c1⟩ := keep2 hb6 hz5 ⟨r0, r1⟩
        have hz6 : w.heap.size < w6.heap.size := by have := hb6.size; omega
        go_wp2_with fail
        refine (left_n v n _ hv).mono ?_
        rintro e w7 ⟨rfl, hb7⟩
        obtain ⟨d0, d1⟩ := keep2 hb7 hz6 ⟨c0, c1⟩
        have hz7 : w.heap.size < w7.heap.size := by have := hb7.size; omega
        go_wp2_with fail
        refine (right_n (shlN v n) n _ (shlN_w v n)).mono ?_
        rintro e w8 ⟨rfl, hb8⟩
        obtain ⟨e0, e1⟩ := keep2 hb8 hz7 ⟨d0, d1⟩
        have hz8 : w.heap.size < w8.heap.size := by have := hb8.size; omega
        rw [unhide G3]
        go_wp2_with fail
        go_ret
        exact ⟨rfl, balloc (bthen (bthen (bthen B5 hb6) hb7) hb8) _⟩

end Go.Proofs.Ytifacdihhhcmnaa
