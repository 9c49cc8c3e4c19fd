/- For every int w and all words a and b the law RadixKeeps answers true, and w, a and b read as before: the root of a square is the number; a root never falls; no NaN but the canonical one; no condition. -/
import Derived.Test.YtafejbkjkbgocaaG33
import Derived.Test.YtafejbkjkbgocaaG35
namespace Go.Proofs.Ytafejbkjkbgocaa
open Go.ChangeShapes Go.WideShapes Go.ChangeAt Go.RowKit Go.Joins
open Go.Proofs.Ytafejbkjkbgocaa.W

/-- A whole number of 24 bits is a float. -/
theorem whole_code {w e f P Q b : Int} (k : Kd w e f P Q b) (v : Nat) (hv : v < 16777216) : ∃ c : Nat, v * 2 ^ Z5 = fval f.toNat (lowN f b) c ∧ (c : Int) < top P Q := by
  obtain ⟨hP, f0, f1, l0, l1, b0, b1⟩ := k.pow
  have hb5 : f + 3 ≤ b := by rcases k with ⟨-, -, rfl, -, -, rfl⟩ | ⟨-, -, rfl, -, -, rfl⟩ <;> omega
  have hL : lowN f b + f.toNat + b.toNat = 5001 := by unfold lowN; omega
  have h24 : 16777216 ≤ 2 ^ (f.toNat + 1) := by rcases k with ⟨-, -, rfl, -⟩ | ⟨-, -, rfl, -⟩ <;> decide
  obtain ⟨c, hc⟩ := rep_k (f := f.toNat) (L := lowN f b) (s := v) (k := Z5) (by omega) (by unfold Z5; omega)
  refine ⟨c, hc, ?_⟩
  have hu := fval_norm f.toNat (lowN f b) (2 ^ f.toNat) (lowN f b + (b.toNat + 23)) (by rw [Nat.pow_succ]; have := Nat.two_pow_pos f.toNat; omega) (by omega) (fun _ => Nat.le_refl _)
  rw [← Nat.pow_add, show lowN f b + (b.toNat + 23) - lowN f b = b.toNat + 23 by omega, show f.toNat + (lowN f b + (b.toNat + 23)) = 24 + Z5 by unfold Z5; omega, Nat.pow_add] at hu
  have h1 : fval f.toNat (lowN f b) c < fval f.toNat (lowN f b) ((b.toNat + 23) * 2 ^ f.toNat + 2 ^ f.toNat) := by
    rw [hu, ← hc]
    exact Nat.mul_lt_mul_of_pos_right (by omega) (Nat.two_pow_pos _)
  have h2 := fval_lt.1 h1
  have h3 : (((b.toNat + 23) * 2 ^ f.toNat + 2 ^ f.toNat : Nat) : Int) = (b + 24) * P := by
    rw [show (b.toNat + 23) * 2 ^ f.toNat + 2 ^ f.toNat = (b.toNat + 24) * 2 ^ f.toNat by rw [show b.toNat + 24 = b.toNat + 23 + 1 by omega, Nat.add_mul (b.toNat + 23), Nat.one_mul], Int.natCast_mul, ← hP, Int.natCast_add, Int.toNat_of_nonneg (by omega)]
    rfl
  have h4 : (b + 24) * P ≤ top P Q := by
    unfold top
    rcases k with ⟨-, -, -, rfl, rfl, rfl⟩ | ⟨-, -, -, rfl, rfl, rfl⟩ <;> omega
  omega
theorem whole_rd {w e f P Q b v : Int} (k : Kd w e f P Q b) (v0 : 0 ≤ v) (v1 : v < 18446744073709551616) (W : World) :
    Calls Try.prog 10 #[.int .i64 w, .bool false, .int .u64 v] W fun r W' => r = .returned (.int .u64 (rd f P Q b false (v.toNat * 2 ^ Z5))) ∧ Below W.heap.size W W' := by
  have := fun W => pack_wide k false v.toNat (E := 0) (small_w2 v0 v1) (by omega) (by omega) W
  rw [show ((0 : Int) + 5000).toNat = Z5 by rfl] at this
  exact whole_f W (hide (fun W => of_n v W v0 v1)) (hide this)
/-- The root of a square. -/
theorem root_whole {w e f P Q b : Int} (k : Kd w e f P Q b) (n : Nat) (hn : n < 4096) : ∃ z : Int, 0 ≤ z ∧ z < 18446744073709551616 ∧ rd f P Q b false (n * n * 2 ^ Z5) = z ∧ ∃ c, IsR f P Q b z c ∧ sqB f P Q z c = rd f P Q b false (n * 2 ^ Z5) := by
  have hq : n * n < 16777216 := by
    have := Nat.mul_lt_mul'' hn hn
    omega
  obtain ⟨d, hd, dt⟩ := whole_code k (n * n) hq
  rw [hd, rd_val k _ dt, fl_self k]
  have htp := top_pos k
  by_cases h0 : n = 0
  · have e0 : ∀ A : Nat, n * n * A = 0 := fun A => by rw [h0, Nat.mul_zero, Nat.zero_mul]
    have e1 : ∀ A : Nat, n * A = 0 := fun A => by rw [h0, Nat.zero_mul]
    rw [e0] at hd
    obtain rfl : d = 0 := by
      refine Decidable.byContradiction fun h => ?_
      have := fval_pos (f := f.toNat) (L := lowN f b) h
      omega
    obtain ⟨o1, o2, o3⟩ := oc_self (c := ((0 : Nat) : Int)) k (by omega) (by omega)
    have hK : oK P Q ((0 : Nat) : Int) = 0 := by
      rcases kind_oc (b := b) k ((0 : Nat) : Int) with ⟨-, h2, -⟩ | ⟨-, h2, -⟩ | ⟨-, h2, -⟩ | ⟨h2, -⟩
      · omega
      · omega
      · omega
      · exact h2
    refine ⟨_, by omega, o3, rfl, 0, fun h => by omega, ?_⟩
    unfold sqB
    rw [if_pos hK, o2, e1, rd_zero k]
  · have hd0 : d ≠ 0 := by
      rintro rfl
      rw [fval_zero] at hd
      have h1 := Nat.mul_pos (Nat.mul_pos (show 0 < n by omega) (show 0 < n by omega)) (Nat.two_pow_pos Z5)
      omega
    obtain ⟨g1, g2, g3, g4⟩ := kind_code k d hd0 dt
    have hf : 1 ≤ f.toNat := by rcases k with ⟨-, -, rfl, -⟩ | ⟨-, -, rfl, -⟩ <;> decide
    have hr : IsRoot f.toNat (lowN f b) (oM f P Q b (d : Int) * 2 ^ Z5) (code f.toNat (lowN f b) (n * 2 ^ Z5)) := by
      have := isRoot_sq f.toNat (lowN f b) (n * 2 ^ Z5) hf
      rw [Nat.mul_mul_mul_comm, ← Nat.mul_assoc, hd] at this
      rw [(oM_fin (b := b) k (x := (d : Int)) (by omega)).1, g3]
      exact this
    refine ⟨_, by omega, g4, rfl, _, fun _ => hr, ?_⟩
    have hi := (root_in k g1 hr).2
    rw [sq_fin k g1 g2]
    unfold rd lid
    rw [if_neg (by unfold top at hi; omega), fl_self k]

/-- What a root is: the canonical NaN, or a float. -/
theorem sq_form {w e f P Q b x : Int} {c : Nat} (k : Kd w e f P Q b) (hc : IsR f P Q b x c) :
    (sqB f P Q x c = nanB f P Q) ∨ ((oK P Q x = 0 ∨ (oK P Q x ≠ 3 ∧ oN P Q x = false)) ∧ ∃ n d, 0 ≤ d ∧ d ≤ top P Q ∧ sqB f P Q x c = fl f P Q n d) := by
  have ht := top_pos k
  have hK : oK P Q x = 0 ∨ oK P Q x = 1 ∨ oK P Q x = 2 ∨ oK P Q x = 3 := by
    rcases kind_oc (b := b) k x with ⟨h, -⟩ | ⟨h, -⟩ | ⟨h, -⟩ | ⟨h, -⟩ <;> omega
  unfold sqB
  by_cases a0 : oK P Q x = 0
  · rw [if_pos a0]
    exact Or.inr ⟨Or.inl a0, _, _, Int.le_refl _, Int.le_of_lt ht, put_nought _⟩
  rw [if_neg a0]
  by_cases a : oK P Q x = 3 ∨ oN P Q x = true
  · rw [if_pos a]
    exact Or.inl rfl
  rw [if_neg a]
  refine Or.inr ⟨Or.inr ⟨fun h => a (Or.inl h), by cases h : oN P Q x with
    | true => exact absurd (Or.inr h) a
    | false => rfl⟩, ?_⟩
  by_cases a2 : oK P Q x = 2
  · rw [if_pos a2]
    exact ⟨_, _, Int.le_of_lt ht, Int.le_refl _, put_inf k _⟩
  · rw [if_neg a2]
    exact ⟨_, _, by omega, Int.le_of_lt (root_in k (by omega) (hc (by omega))).2, rfl⟩

/-- A root never falls. -/
theorem sq_mono {w e f P Q b x y : Int} {c d : Nat} (k : Kd w e f P Q b) (hc : IsR f P Q b x c) (hd : IsR f P Q b y d) (x3 : oK P Q x ≠ 3) (y3 : oK P Q y ≠ 3) (xn : oN P Q x = false) (yn : oN P Q y = false) (h : oc P Q x ≤ oc P Q y) : sqB f P Q x c ≤ sqB f P Q y d := by
  have ht := top_pos k
  have tt : put f P Q false (Q - 1) 0 = top P Q := by rw [put_inf k, fl_self k]
  have tz : put f P Q false 0 0 = 0 := by rw [put_nought, fl_self k]
  have vx : sqB f P Q x c = if oK P Q x = 0 then 0 else if oK P Q x = 2 then top P Q else (c : Int) := by
    unfold sqB
    rw [xn, tz, tt, fl_self k]
    by_cases a0 : oK P Q x = 0
    · rw [if_pos a0, if_pos a0]
    · rw [if_neg a0, if_neg a0, if_neg (by intro h'; rcases h' with h' | h'; exact x3 h'; exact absurd h' (by decide))]
  have vy : sqB f P Q y d = if oK P Q y = 0 then 0 else if oK P Q y = 2 then top P Q else (d : Int) := by
    unfold sqB
    rw [yn, tz, tt, fl_self k]
    by_cases a0 : oK P Q y = 0
    · rw [if_pos a0, if_pos a0]
    · rw [if_neg a0, if_neg a0, if_neg (by intro h'; rcases h' with h' | h'; exact y3 h'; exact absurd h' (by decide))]
  rw [vx, vy]
  rcases kind_oc (b := b) k x with ⟨h1, -⟩ | ⟨h1, h2, -⟩ | ⟨h1, h2, h3, h4⟩ | ⟨h1, h2, -⟩
  · exact absurd h1 x3
  · rcases kind_oc (b := b) k y with ⟨g1, -⟩ | ⟨g1, g2, -⟩ | ⟨g1, g2, g3, g4⟩ | ⟨g1, g2, -⟩
    · exact absurd g1 y3
    · rw [if_neg (by omega), if_pos h1, if_neg (by omega), if_pos g1]
      exact Int.le_refl _
    · omega
    · omega
  · rcases kind_oc (b := b) k y with ⟨g1, -⟩ | ⟨g1, g2, -⟩ | ⟨g1, g2, g3, g4⟩ | ⟨g1, g2, -⟩
    · exact absurd g1 y3
    · rw [if_neg (by omega), if_neg (by omega), if_neg (by omega), if_pos g1]
      exact Int.le_of_lt (root_in k h1 (hc h1)).2
    · rw [if_neg (by omega), if_neg (by omega), if_neg (by omega), if_neg (by omega)]
      have r1 := hc h1
      have r2 := hd g1
      rw [h4] at r1
      rw [g4] at r2
      exact Int.ofNat_le.2 (r1.mono r2 (Nat.mul_le_mul_right _ (fval_le.2 h)))
    · omega
  · rw [if_pos h1]
    split
    · exact Int.le_refl _
    split
    · omega
    · omega

theorem radixKeeps_any (w x y : Int) (W : World) (x0 : 0 ≤ x) (x1 : x < 18446744073709551616) (y0 : 0 ≤ y) (y1 : y < 18446744073709551616) :
    Calls Try.prog 4 #[.int .i64 w, .int .u64 x, .int .u64 y] W fun r W' => r = .returned (.bool true) ∧ Below W.heap.size W W' := by
  obtain ⟨e, f, P, Q, b, h⟩ := wd_ex w
  have HW := hide awake_any
  by_cases hf : f = 0
  · have hw : w ≠ 32 ∧ w ≠ 64 := by
      rcases h with h | h | h
      · omega
      · omega
      · exact h.1
    exact keeps_no W (ne_t hw.1) (ne_t hw.2) HW
  have k := h.known hf
  obtain ⟨a, ha, hn⟩ : ∃ a : Nat, x.tmod 4096 = (a : Int) ∧ a < 4096 := by
    rw [Int.tmod_eq_emod_of_nonneg x0]
    exact ⟨(x % 4096).toNat, by omega, by omega⟩
  have ha2 : IntKind.u64.wrap ((a : Int) * (a : Int)) = ((a * a : Nat) : Int) := by
    have := Nat.mul_lt_mul'' hn hn
    rw [← Int.natCast_mul, u64_id (by omega) (by omega)]
  have hsq : ((a * a : Nat) : Int) < 18446744073709551616 := by
    have := Nat.mul_lt_mul'' hn hn
    omega
  obtain ⟨z, z0, z1, hz, cz, hcz, hsz⟩ := root_whole k a hn
  have HA := fun W => whole_rd (v := ((a * a : Nat) : Int)) k (by omega) hsq W
  rw [Int.toNat_natCast, hz] at HA
  have HS0 := fun W => sqrt_any k W z0 z1 hcz
  rw [hsz] at HS0
  have HA1 := fun W => whole_rd (v := (a : Int)) k (by omega) (by omega) W
  rw [Int.toNat_natCast] at HA1
  obtain ⟨c, hc⟩ := isR_ex f P Q b x
  obtain ⟨d, hd⟩ := isR_ex f P Q b y
  have HS1 := fun W => sqrt_any k W x0 x1 hc
  have HS2 := hide (fun W => sqrt_any k W y0 y1 hd)
  have HA := hide HA
  have HS0 := hide HS0
  have HA1 := hide HA1
  rcases sq_form k hc with hs | ⟨hx, n, v, v0, v1, hs⟩
  · rw [hs] at HS1
    obtain ⟨m0, m1, m2, m3, m4⟩ := nan_facts k
    have HT := fun W => isNanW_any (nanB f P Q) k.wd W m0 m1
    rw [m4] at HT
    have HN : Hid (∀ W, Calls Try.prog 12 #[.int .i64 w] W fun r W' => r = .returned (.int .u64 (nanB f P Q)) ∧ Below W.heap.size W W') := hide (fun W => nan_any k.wd W)
    rcases kd_in k with g1 | ⟨g1, g2⟩
    · exact keeps_n32 W g1 HW ha ha2 HA HS0 HA1 (hide HS1) HS2 (hide HT) HN
    · exact keeps_n64 W g1 g2 HW ha ha2 HA HS0 HA1 (hide HS1) HS2 (hide HT) HN
  · have HS1 := hide HS1
    obtain ⟨r0, r1, -, -, -, r5⟩ := fl_facts k n v0 v1
    rw [← hs] at r0 r1 r5
    have HT := fun W => isNanW_any _ k.wd W r0 r1
    rw [r5] at HT
    have HT := hide HT
    obtain ⟨X, S, hop, -, -⟩ := open_kd k x
    obtain ⟨X1, S1, hoq, -, -⟩ := open_kd k y
    have HP := hide (fun W => open_any x k.wd W x0 x1 hop)
    have HQ := hide (fun W => open_any y k.wd W y0 y1 hoq)
    have x3 : oK P Q x ≠ 3 := by omega
    cases xn : oN P Q x with
    | true =>
      rw [xn] at HP
      rcases kd_in k with g1 | ⟨g1, g2⟩
      · exact keeps_a32 W g1 HW ha ha2 HA HS0 HA1 HS1 HS2 HT HP HQ
      · exact keeps_a64 W g1 g2 HW ha ha2 HA HS0 HA1 HS1 HS2 HT HP HQ
    | false =>
    rw [xn] at HP
    cases yn : oN P Q y with
    | true =>
      rw [yn] at HQ
      rcases kd_in k with g1 | ⟨g1, g2⟩
      · exact keeps_b32 W g1 HW ha ha2 HA HS0 HA1 HS1 HS2 HT HP HQ
      · exact keeps_b64 W g1 g2 HW ha ha2 HA HS0 HA1 HS1 HS2 HT HP HQ
    | false =>
    rw [yn] at HQ
    by_cases y3 : oK P Q y = 3
    · rcases kd_in k with g1 | ⟨g1, g2⟩
      · exact keeps_c32 W g1 HW ha ha2 HA HS0 HA1 HS1 HS2 HT HP HQ (eq_t y3)
      · exact keeps_c64 W g1 g2 HW ha ha2 HA HS0 HA1 HS1 HS2 HT HP HQ (eq_t y3)
    have HC1 := fun W => cut_any y k.wd W y0 y1
    have HC2 := fun W => cut_any x k.wd W x0 x1
    rw [cut_fl k y3, yn, fl_self k] at HC1
    rw [cut_fl k x3, xn, fl_self k] at HC2
    by_cases hcut : ((oc P Q y : Nat) : Int) < ((oc P Q x : Nat) : Int)
    · rcases kd_in k with g1 | ⟨g1, g2⟩
      · exact keeps_d32 W g1 HW ha ha2 HA HS0 HA1 HS1 HS2 HT HP HQ (eq_f y3) (hide HC1) (hide HC2) hcut
      · exact keeps_d64 W g1 g2 HW ha ha2 HA HS0 HA1 HS1 HS2 HT HP HQ (eq_f y3) (hide HC1) (hide HC2) hcut
    · have hle := sq_mono k hc hd x3 y3 xn yn (by omega)
      rcases kd_in k with g1 | ⟨g1, g2⟩
      · exact keeps_e32 W g1 HW ha ha2 HA HS0 HA1 HS1 HS2 HT HP HQ (eq_f y3) (hide HC1) (hide HC2) hcut hle
      · exact keeps_e64 W g1 g2 HW ha ha2 HA HS0 HA1 HS1 HS2 HT HP HQ (eq_f y3) (hide HC1) (hide HC2) hcut hle

set_option maxRecDepth 100000 in
theorem radixKeeps_lifted (os : Os) (started : os.Started) (H : Type) (enc : TypeId × Value → H) :
    ReturnsInHanded {} Try.checked os 4 .any (Rows.radixKeepsSpec.pre6 enc Try.prog Try.f4 Rows.radixKeepsRow.domain false) (Rows.radixKeepsSpec.post enc Try.prog Try.f4 false true false false) := by
  refine returnsInHanded_of_change (C := Try.checked) Try.own started (by kernel_rfl) Try.func4
    (ChangeSpec.witness6 (enc := enc) (C := Try.checked) false ⟨#[], #[.int .i64 0, .int .u64 0, .int .u64 0], []⟩ 8 (by kernel_rfl) (by kernel_rfl) (by kernel_rfl) (by kernel_rfl)) ?_
  intro W base args ds gs before hval0 hW hcnd _
  have hval : ∀ (j : Nat) t v, Try.f4.params[j]? = some t → args[j]? = some v → Value.okWide Try.prog W .any base t v := hval0
  have hW' := hW
  obtain ⟨p, q, hA0, hV, rfl, hfz, hnd⟩ := hW
  have hA : DataW.TrodAll enc Try.prog W 0 (fun _ => true) true Try.f4.params.toList args.toList ds p := hA0
  rw [Try.params4] at hA hval
  obtain ⟨v0, v1, v2, d0, d1, d2, p0, p1, p2, rfl, rfl, rfl, h0, h1, h2⟩ := trodAll_three hA
  obtain ⟨rfl, rfl⟩ := trodVars_none hV
  obtain ⟨w, rfl, rfl, rfl, ww⟩ := open_int Try.underlying3 (hval 0 3 v0 rfl rfl) h0
  obtain ⟨x, rfl, rfl, rfl, wx⟩ := open_int Try.underlying22 (hval 1 22 v1 rfl rfl) h1
  obtain ⟨y, rfl, rfl, rfl, wy⟩ := open_int Try.underlying22 (hval 2 22 v2 rfl rfl) h2
  clear hA0 hval0
  simp only [List.append_nil] at hW'
  refine (radixKeeps_any w x y W  (word_of_wf wx).1 (word_of_wf wx).2 (word_of_wf wy).1 (word_of_wf wy).2).mono fun e W' ⟨he, hb⟩ => ?_
  subst he
  exact ⟨_, rfl, ⟨_, _, _, [], [], [], hW', trodAll_mk1 (shut_bool Try.underlying4 _), trodAll_mk3 (shut_int Try.underlying3 ww) (shut_int Try.underlying22 wx) (shut_int Try.underlying22 wy), rfl, hb.frame _, fun h => by cases h⟩⟩

theorem radixKeeps_holds : Rows.RadixKeepsSaid :=
  OpenClaim.holds_of_wide 4 Try.f4 rfl rfl rfl rfl rfl rfl rfl ⟨rfl, rfl, rfl, rfl, rfl⟩ rfl rfl rfl rfl rfl (by kernel_rfl) Try.func4 (by kernel_rfl)
    (of_decide_eq_true (by kernel_rfl)) (by unfold Func.isWrapper; first | (rw [if_pos (by decide +kernel)]; kernel_rfl) | (rw [if_neg (by decide +kernel)]; exact ⟨rfl, rfl⟩))
    (fun os started H enc _ => radixKeeps_lifted os started H enc)

#print axioms radixKeeps_holds
end Go.Proofs.Ytafejbkjkbgocaa
