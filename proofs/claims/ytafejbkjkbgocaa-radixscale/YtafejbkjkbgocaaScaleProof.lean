/- For every int w, word a and int k the law RadixScale answers true, and w, a and k read as before: the root of a number times 4^k is its root times 2^k, where both have all their bits; no condition. -/
import Derived.Test.YtafejbkjkbgocaaG33
import Derived.Test.YtafejbkjkbgocaaG35
namespace Go.Proofs.Ytafejbkjkbgocaa
open Go.ChangeShapes Go.WideShapes Go.ChangeAt Go.RowKit Go.Joins
open Go.Proofs.Ytafejbkjkbgocaa.W

theorem mag_shift' {X S N : Int} (h0 : -1200 ≤ X) (h1 : -2500 ≤ N) (h2 : N ≤ 2500) : mag X S * 2 ^ Z5 / 2 ^ (5000 - N).toNat = S.toNat * 2 ^ (X + N + 5000).toNat := by
  have e : mag X S * 2 ^ Z5 = S.toNat * 2 ^ (X + N + 5000).toNat * 2 ^ (5000 - N).toNat := by
    unfold mag
    rw [Nat.mul_assoc, ← Nat.pow_add, Nat.mul_assoc, ← Nat.pow_add, show (X + 5000).toNat + Z5 = (X + N + 5000).toNat + (5000 - N).toNat by unfold Z5; omega]
  rw [e]
  exact Nat.mul_div_cancel _ (Nat.two_pow_pos _)
/-- A finite float times a power of two. -/
theorem scale_fin {w e f P Q b x : Int} (k : Kd w e f P Q b) (N : Int) (x0 : 0 ≤ x) (x1 : x < 18446744073709551616) (hx : oK P Q x = 1) (h0 : -2500 ≤ N) (h1 : N ≤ 2500) (W : World) :
    Calls Try.prog 18 #[.int .i64 w, .int .u64 x, .int .i64 N] W fun r W' => r = .returned (.int .u64 (rd f P Q b (oN P Q x) (oM f P Q b x * 2 ^ Z5 / 2 ^ (5000 - N).toNat))) ∧ Below W.heap.size W W' := by
  obtain ⟨X, S, o1, p1, m1⟩ := open_kd k x
  have HO := hide (fun W => open_any x k.wd W x0 x1 o1)
  rw [← m1]
  generalize oN P Q x = n at *
  obtain ⟨u0, u1, s0, -, s1⟩ := p1.in k
  rw [mag_shift' (X := X) (S := S) (N := N) u0 h0 h1]
  rw [hx] at HO p1
  have HC := hide (fun W => narrow_any k n 1 (X + N) S s0 (by omega) W)
  have e1 := scale_num k n N p1
  rw [clamp_id (by omega) (by omega), clamp_id (by omega) (by omega), exact_wide k n _ (by omega) (by omega)] at e1
  rw [e1] at HC
  exact scale_mid W (by omega) (by omega) (i64_id (by omega) (by omega)) HO HC

/-- The bits that two numbers have, one the other times a power of two. -/
theorem fval_pow {w e f P Q b : Int} (k : Kd w e f P Q b) (c d : Nat) (N : Int) (hc : 2 ^ f.toNat ≤ c) (hn : 0 ≤ N) (hcd : (d : Int) = c + N * P) : d = c + N.toNat * 2 ^ f.toNat ∧ fval f.toNat (lowN f b) d = fval f.toNat (lowN f b) c * 2 ^ N.toNat := by
  obtain ⟨hP, f0, f1, l0, l1, b0, b1⟩ := k.pow
  have h : d = c + N.toNat * 2 ^ f.toNat := by
    apply Int.ofNat.inj
    show (d : Int) = ((c + N.toNat * 2 ^ f.toNat : Nat) : Int)
    rw [hcd, Int.natCast_add, Int.natCast_mul, ← hP, show ((N.toNat : Nat) : Int) = N by omega]
  exact ⟨h, by rw [h]; exact (mid2_shift f.toNat (lowN f b) c N.toNat hc).2⟩
/-- Up by a power of two, or down, between two codes with all their bits. -/
theorem scale_code {w e f P Q b x : Int} (k : Kd w e f P Q b) (x0 : 0 ≤ x) (x1 : x < 18446744073709551616) (hK : oK P Q x = 1) (hN : oN P Q x = false) (d : Nat) (N : Int) (h0 : -2500 ≤ N) (h1 : N ≤ 2500) (hc : 2 ^ f.toNat ≤ oc P Q x) (hd : 2 ^ f.toNat ≤ d) (dt : (d : Int) < top P Q) (hcd : (d : Int) = oc P Q x + N * P) (W : World) :
    Calls Try.prog 18 #[.int .i64 w, .int .u64 x, .int .i64 N] W fun r W' => r = .returned (.int .u64 (d : Int)) ∧ Below W.heap.size W W' := by
  have hs := scale_fin k N x0 x1 hK h0 h1 W
  have hv : oM f P Q b x * 2 ^ Z5 / 2 ^ (5000 - N).toNat = fval f.toNat (lowN f b) d := by
    rw [(oM_fin (b := b) k (x := x) (by omega)).1]
    by_cases hn : 0 ≤ N
    · rw [(fval_pow k _ _ N hc hn hcd).2, show Z5 = N.toNat + (5000 - N).toNat by unfold Z5; omega, Nat.pow_add, ← Nat.mul_assoc]
      exact Nat.mul_div_cancel _ (Nat.two_pow_pos _)
    · rw [(fval_pow k d _ (-N) hd (by omega) (by rw [hcd, Int.neg_mul]; omega)).2, Nat.mul_assoc, ← Nat.pow_add, show (-N).toNat + Z5 = (5000 - N).toNat by unfold Z5; omega]
      exact Nat.mul_div_cancel _ (Nat.two_pow_pos _)
  rw [hv, hN, rd_val k _ dt, fl_self k] at hs
  exact hs
/-- The roots of two numbers, one the other times a power of four. -/
theorem roots_pow {w e f P Q b : Int} (k : Kd w e f P Q b) (c d c1 d1 : Nat) (N : Int) (hc : 2 ^ f.toNat ≤ c) (hn : 0 ≤ N) (hcd : (d : Int) = c + 2 * N * P) (h1 : IsRoot f.toNat (lowN f b) (fval f.toNat (lowN f b) c * 2 ^ Z5) c1) (h2 : IsRoot f.toNat (lowN f b) (fval f.toNat (lowN f b) d * 2 ^ Z5) d1) (hi : 2 ^ f.toNat < c1) : (d1 : Int) = c1 + N * P := by
  obtain ⟨hP, f0, f1, l0, l1, b0, b1⟩ := k.pow
  have hf : 1 ≤ f.toNat := by rcases k with ⟨-, -, rfl, -⟩ | ⟨-, -, rfl, -⟩ <;> decide
  have h3 := h1.shift N.toNat hf hi
  rw [(fval_pow k c d (2 * N) hc (by omega) hcd).2, Nat.mul_right_comm, show (2 * N).toNat = N.toNat + N.toNat by omega, Nat.pow_add] at h2
  rw [h2.uniq h3, Int.natCast_add, Int.natCast_mul, ← hP, show ((N.toNat : Nat) : Int) = N by omega]

theorem radixScale_any (w x N : Int) (W : World) (x0 : 0 ≤ x) (x1 : x < 18446744073709551616) :
    Calls Try.prog 5 #[.int .i64 w, .int .u64 x, .int .i64 N] W fun r W' => r = .returned (.bool true) ∧ Below W.heap.size W W' := by
  obtain ⟨e, f, P, Q, b, h⟩ := wd_ex w
  have HK := fun W => refKnown_any h W
  have HW := hide awake_any
  by_cases hf : f = 0
  · rw [ne_f hf] at HK
    exact rs_f W HW (hide HK)
  have k := h.known hf
  rw [ne_t hf] at HK
  have HK := hide HK
  by_cases h1 : N < -1000
  · exact rs_lo W HW HK h1
  by_cases h2 : 1000 < N
  · exact rs_hi W HW HK h1 h2
  have HX := hide (fun W => refExp_any x k W x0 x1)
  have HN := fun W => refNeg_any x k W x0 x1
  have HT := hide (fun W => refTop_any k W)
  obtain ⟨p1, p2, q1, q2⟩ := k.pos
  obtain ⟨hP, f0, f1, l0, l1, b0, b1⟩ := k.pow
  obtain ⟨u, v⟩ := exp_in (x / P) (show 1 ≤ Q by omega)
  obtain ⟨u', v'⟩ := exp_in x (show 1 ≤ P by omega)
  cases hs : sg P Q x with
  | true =>
    rw [hs] at HN
    exact rs_n W HW HK h1 h2 HX (hide HN)
  | false =>
  rw [hs] at HN
  have HN := hide HN
  by_cases e0 : x / P % Q = 0
  · exact rs_0 W HW HK h1 h2 HX HN (eq_t e0)
  by_cases e1 : x / P % Q = Q - 1
  · exact rs_1 W HW HK h1 h2 HX HN (eq_f e0) HT (eq_t e1)
  have k1 : IntKind.i64.wrap (2 * N) = 2 * N := i64_id (by omega) (by omega)
  have k2 : IntKind.i64.wrap (x / P % Q + 2 * N) = x / P % Q + 2 * N := i64_id (by omega) (by omega)
  by_cases e2 : x / P % Q + 2 * N < 1
  · exact rs_2 W HW HK h1 h2 HX HN (eq_f e0) HT (eq_f e1) k1 k2 e2
  by_cases e3 : Q - 1 ≤ x / P % Q + 2 * N
  · exact rs_3 W HW HK h1 h2 HX HN (eq_f e0) HT (eq_f e1) k1 k2 e2 e3
  have hK : oK P Q x = 1 := by unfold oK; rw [if_neg e1, if_neg (by omega)]
  have hN : oN P Q x = false := by unfold oN; rw [if_neg (by omega), hs]
  obtain ⟨hM, hct⟩ := oM_fin (b := b) k (x := x) (by omega)
  have hcx : ((oc P Q x : Nat) : Int) = x / P % Q * P + x % P := by
    unfold oc
    have := Int.mul_nonneg u (show 0 ≤ P by omega)
    omega
  obtain ⟨d, hd, hd0, hd1, hc0⟩ : ∃ d : Nat, (d : Int) = (oc P Q x : Nat) + 2 * N * P ∧ P ≤ (d : Int) ∧ (d : Int) < top P Q ∧ P ≤ ((oc P Q x : Nat) : Int) := by
    rw [hcx]
    refine ⟨((x / P % Q + 2 * N) * P + x % P).toNat, ?_⟩
    generalize x / P % Q = E at *
    generalize x % P = F at *
    unfold top
    clear hK hN hM hct hcx HK HW HX HN HT hs k1 k2 h
    rcases k with ⟨-, -, -, rfl, rfl, -⟩ | ⟨-, -, -, rfl, rfl, -⟩ <;> (refine ⟨?_, ?_, ?_, ?_⟩ <;> omega)
  obtain ⟨g1, g2, g3, g4⟩ := kind_code k d (by omega) hd1
  obtain ⟨c1, hc1⟩ := isR_ex f P Q b x
  obtain ⟨d1, hd1'⟩ := isR_ex f P Q b (d : Int)
  have r1 := hc1 hK
  have r2 := hd1' g1
  obtain ⟨i1, i2⟩ := root_in k hK r1
  obtain ⟨j1, j2⟩ := root_in k g1 r2
  rw [hM] at r1
  rw [(oM_fin (b := b) k (x := (d : Int)) (by omega)).1, g3] at r2
  have hp := Nat.two_pow_pos f.toNat
  have hr : (d1 : Int) = c1 + N * P := by
    by_cases hn : 0 ≤ N
    · exact roots_pow k _ _ c1 d1 N (by omega) hn hd r1 r2 i1
    · have := roots_pow k d (oc P Q x) d1 c1 (-N) (by omega) (by omega) (by rw [hd, Int.mul_neg, Int.neg_mul]; omega) r2 r1 j1
      rw [this, Int.neg_mul]
      omega
  obtain ⟨t1, t2, t3, t4⟩ := kind_code k c1 (by omega) i2
  have HS := hide (fun W => scale_code k x0 x1 hK hN d (2 * N) (by omega) (by omega) (by omega) (by omega) hd1 hd W)
  have HA := fun W => sqrt_any k W (by omega) g4 hd1'
  rw [sq_fin k g1 g2] at HA
  have HA2 := fun W => sqrt_any k W x0 x1 hc1
  rw [sq_fin k hK hN] at HA2
  have HS2 := hide (fun W => scale_code k (x := (c1 : Int)) (by omega) t4 t1 t2 d1 N (by omega) (by omega) (by rw [t3]; omega) (by omega) j2 (by rw [t3]; exact hr) W)
  exact rs_t W HW HK h1 h2 HX HN (eq_f e0) HT (eq_f e1) k1 k2 e2 e3 HS (hide HA) (hide HA2) HS2

set_option maxRecDepth 100000 in
theorem radixScale_lifted (os : Os) (started : os.Started) (H : Type) (enc : TypeId × Value → H) :
    ReturnsInHanded {} Try.checked os 5 .any (Rows.radixScaleSpec.pre6 enc Try.prog Try.f5 Rows.radixScaleRow.domain false) (Rows.radixScaleSpec.post enc Try.prog Try.f5 false true false false) := by
  refine returnsInHanded_of_change (C := Try.checked) Try.own started (by kernel_rfl) Try.func5
    (ChangeSpec.witness6 (enc := enc) (C := Try.checked) false ⟨#[], #[.int .i64 0, .int .u64 0, .int .i64 0], []⟩ 8 (by kernel_rfl) (by kernel_rfl) (by kernel_rfl) (by kernel_rfl)) ?_
  intro W base args ds gs before hval0 hW hcnd _
  have hval : ∀ (j : Nat) t v, Try.f5.params[j]? = some t → args[j]? = some v → Value.okWide Try.prog W .any base t v := hval0
  have hW' := hW
  obtain ⟨p, q, hA0, hV, rfl, hfz, hnd⟩ := hW
  have hA : DataW.TrodAll enc Try.prog W 0 (fun _ => true) true Try.f5.params.toList args.toList ds p := hA0
  rw [Try.params5] at hA hval
  obtain ⟨v0, v1, v2, d0, d1, d2, p0, p1, p2, rfl, rfl, rfl, h0, h1, h2⟩ := trodAll_three hA
  obtain ⟨rfl, rfl⟩ := trodVars_none hV
  obtain ⟨w, rfl, rfl, rfl, ww⟩ := open_int Try.underlying3 (hval 0 3 v0 rfl rfl) h0
  obtain ⟨x, rfl, rfl, rfl, wx⟩ := open_int Try.underlying22 (hval 1 22 v1 rfl rfl) h1
  obtain ⟨y, rfl, rfl, rfl, wy⟩ := open_int Try.underlying3 (hval 2 3 v2 rfl rfl) h2
  clear hA0 hval0
  simp only [List.append_nil] at hW'
  refine (radixScale_any w x y W  (word_of_wf wx).1 (word_of_wf wx).2 ).mono fun e W' ⟨he, hb⟩ => ?_
  subst he
  exact ⟨_, rfl, ⟨_, _, _, [], [], [], hW', trodAll_mk1 (shut_bool Try.underlying4 _), trodAll_mk3 (shut_int Try.underlying3 ww) (shut_int Try.underlying22 wx) (shut_int Try.underlying3 wy), rfl, hb.frame _, fun h => by cases h⟩⟩

theorem radixScale_holds : Rows.RadixScaleSaid :=
  OpenClaim.holds_of_wide 5 Try.f5 rfl rfl rfl rfl rfl rfl rfl ⟨rfl, rfl, rfl, rfl, rfl⟩ rfl rfl rfl rfl rfl (by kernel_rfl) Try.func5 (by kernel_rfl)
    (of_decide_eq_true (by kernel_rfl)) (by unfold Func.isWrapper; first | (rw [if_pos (by decide +kernel)]; kernel_rfl) | (rw [if_neg (by decide +kernel)]; exact ⟨rfl, rfl⟩))
    (fun os started H enc _ => radixScale_lifted os started H enc)

#print axioms radixScale_holds
end Go.Proofs.Ytafejbkjkbgocaa
