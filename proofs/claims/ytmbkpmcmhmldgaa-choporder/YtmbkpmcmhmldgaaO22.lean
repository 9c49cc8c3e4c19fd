/- SumA, RefOpen. -/
import Derived.Test.YtmbkpmcmhmldgaaO14
import Derived.Test.YtmbkpmcmhmldgaaO16
namespace Go.Proofs.Ytmbkpmcmhmldgaa

/-- The number of the float of a code. -/
def fval (f L c : Nat) : Nat := if c < 2 ^ (f + 1) then c * 2 ^ L else (2 ^ f + c % 2 ^ f) * 2 ^ (c / 2 ^ f - 1 + L)

theorem fval_norm (f L s k : Nat) (h1 : s < 2 ^ (f + 1)) (hk : L ≤ k) (h2 : L < k → 2 ^ f ≤ s) : fval f L ((k - L) * 2 ^ f + s) = s * 2 ^ k := by
  have e2 : 2 ^ (f + 1) = 2 ^ f + 2 ^ f := by rw [Nat.pow_succ]; omega
  have hp := Nat.two_pow_pos f
  by_cases hL : L < k
  · have h3 := h2 hL
    obtain ⟨r, rfl⟩ := Nat.exists_eq_add_of_le h3
    obtain ⟨j, rfl⟩ : ∃ j, k = L + (j + 1) := ⟨k - L - 1, by omega⟩
    rw [show L + (j + 1) - L = j + 1 by omega]
    have hc : (j + 1) * 2 ^ f + (2 ^ f + r) = 2 ^ f * (j + 2) + r := by
      rw [show (j + 1) * 2 ^ f = 2 ^ f * (j + 1) by rw [Nat.mul_comm], show j + 2 = j + 1 + 1 by omega, Nat.mul_add (2 ^ f) (j + 1) 1]
      omega
    have hlt : r < 2 ^ f := by omega
    rw [hc]
    unfold fval
    rw [if_neg (by
      have := Nat.mul_le_mul_left (2 ^ f) (show 2 ≤ j + 2 by omega)
      omega)]
    rw [Nat.mul_add_mod, Nat.mod_eq_of_lt hlt, Nat.mul_add_div hp, Nat.div_eq_of_lt hlt, show j + 2 + 0 - 1 + L = L + (j + 1) by omega]
  · have : k = L := by omega
    subst this
    rw [Nat.sub_self, Nat.zero_mul, Nat.zero_add]
    unfold fval
    rw [if_pos h1]
theorem fval_ex (f L c : Nat) : ∃ s k, c = (k - L) * 2 ^ f + s ∧ s < 2 ^ (f + 1) ∧ L ≤ k ∧ (L < k → 2 ^ f ≤ s) ∧ fval f L c = s * 2 ^ k := by
  have e2 : 2 ^ (f + 1) = 2 ^ f + 2 ^ f := by rw [Nat.pow_succ]; omega
  have hp := Nat.two_pow_pos f
  by_cases h : c < 2 ^ (f + 1)
  · refine ⟨c, L, by rw [Nat.sub_self, Nat.zero_mul, Nat.zero_add], h, Nat.le_refl _, fun h => absurd h (Nat.lt_irrefl _), ?_⟩
    unfold fval
    rw [if_pos h]
  · have hd := Nat.div_add_mod c (2 ^ f)
    have hm := Nat.mod_lt c hp
    have h2 : 2 ≤ c / 2 ^ f := (Nat.le_div_iff_mul_le hp).2 (by omega)
    refine ⟨2 ^ f + c % 2 ^ f, c / 2 ^ f - 1 + L, ?_, by omega, by omega, fun _ => by omega, ?_⟩
    · rw [show c / 2 ^ f - 1 + L - L = c / 2 ^ f - 1 by omega, Nat.sub_mul, Nat.mul_comm (c / 2 ^ f) (2 ^ f)]
      have := Nat.mul_le_mul_left (2 ^ f) h2
      omega
    · unfold fval
      rw [if_neg h]
theorem fval_code (f L c : Nat) : code f L (fval f L c) = c := by
  obtain ⟨s, k, h0, h1, h2, h3, h4⟩ := fval_ex f L c
  rw [h4, code_exact f L s k h1 h2 h3]
  exact h0.symm
theorem fval_le {f L c d : Nat} : fval f L c ≤ fval f L d ↔ c ≤ d := by
  constructor
  · intro h
    have := code_mono f L h
    rwa [fval_code, fval_code] at this
  · intro h
    refine Decidable.byContradiction fun hn => ?_
    have h1 := code_mono f L (show fval f L d ≤ fval f L c by omega)
    rw [fval_code, fval_code] at h1
    have : c = d := by omega
    subst this
    omega
theorem fval_zero (f L : Nat) : fval f L 0 = 0 := by
  unfold fval
  rw [if_pos (Nat.two_pow_pos _), Nat.zero_mul]
end Go.Proofs.Ytmbkpmcmhmldgaa
namespace Go.Proofs.Ytmbkpmcmhmldgaa
open Go.RowKit

set_option maxRecDepth 100000 in
set_option maxHeartbeats 2000000 in
theorem refOpen_nan {w e f P Q b x xx yy : Int} {n : Bool} (W : World)
    (HX : Ct 33 #[.int .i64 w, .int .u64 x] (.int .i64 xx))
    (HY : Ct 34 #[.int .i64 w, .int .u64 x] (.int .u64 yy))
    (HN : Ct 35 #[.int .i64 w, .int .u64 x] (.bool n))
    (h : Kd w e f P Q b) (h1 : (xx == Q - 1) = true) (h2 : (yy != 0) = true) :
    Calls Try.prog 17 #[.int .i64 w, .int .u64 x] W fun r W' => r = .returned (.agg #[.bool false, .int .i64 3, .int .i64 0, .int .u64 0]) ∧ Below W.heap.size W W' := by
  have HT := hide (fun W => refTop_any h W)
  clear h
  go_enter Try.func17, Try.ntmps17
  go_wp2_with fail
  refine (unhide HX _).mono ?_
  rintro _ w1 ⟨rfl, hbl⟩
  have HR := hide (room4 hbl)
  have HB := hide (bthen (below1 _ _) hbl)
  clear hbl
  go_wp2_with fail
  refine (unhide HY _).mono ?_
  rintro _ w2 ⟨rfl, hbl⟩
  have HR := hide ((unhide HR).below hbl)
  have HB := hide (bthen (unhide HB) hbl)
  clear hbl
  go_wp2_with fail
  refine (unhide HN _).mono ?_
  rintro _ w3 ⟨rfl, hbl⟩
  have HR := hide ((unhide HR).below hbl)
  have HB := hide (bthen (unhide HB) hbl)
  clear hbl
  go_wp2_with fail
  refine (unhide HT _).mono ?_
  rintro _ w4 ⟨rfl, hbl⟩
  have HR := hide ((unhide HR).below hbl)
  have HB := hide (bthen (unhide HB) hbl)
  clear hbl
  obtain ⟨⟨v0, c0⟩, f0⟩ := (unhide HR) 0 (by omega)
  obtain ⟨⟨v1, c1⟩, f1⟩ := (unhide HR) 1 (by omega)
  obtain ⟨⟨v2, c2⟩, f2⟩ := (unhide HR) 2 (by omega)
  obtain ⟨⟨v3, c3⟩, f3⟩ := (unhide HR) 3 (by omega)
  go_wp2_with fail
  exact bodyPost_ret (v := .agg #[.bool false, .int .i64 3, .int .i64 0, .int .u64 0]) (by simp (maxDischargeDepth := 8) [results, Try.results17, go_sem, c0, c1, c2, c3]) rfl ⟨rfl, bset4 (unhide HB) _ _ _ _⟩

set_option maxRecDepth 100000 in
set_option maxHeartbeats 2000000 in
theorem refOpen_inf {w e f P Q b x xx yy : Int} {n : Bool} (W : World)
    (HX : Ct 33 #[.int .i64 w, .int .u64 x] (.int .i64 xx))
    (HY : Ct 34 #[.int .i64 w, .int .u64 x] (.int .u64 yy))
    (HN : Ct 35 #[.int .i64 w, .int .u64 x] (.bool n))
    (h : Kd w e f P Q b) (h1 : (xx == Q - 1) = true) (h2 : (yy != 0) = false) :
    Calls Try.prog 17 #[.int .i64 w, .int .u64 x] W fun r W' => r = .returned (.agg #[.bool n, .int .i64 2, .int .i64 0, .int .u64 0]) ∧ Below W.heap.size W W' := by
  have HT := hide (fun W => refTop_any h W)
  clear h
  go_enter Try.func17, Try.ntmps17
  go_wp2_with fail
  refine (unhide HX _).mono ?_
  rintro _ w1 ⟨rfl, hbl⟩
  have HR := hide (room4 hbl)
  have HB := hide (bthen (below1 _ _) hbl)
  clear hbl
  go_wp2_with fail
  refine (unhide HY _).mono ?_
  rintro _ w2 ⟨rfl, hbl⟩
  have HR := hide ((unhide HR).below hbl)
  have HB := hide (bthen (unhide HB) hbl)
  clear hbl
  go_wp2_with fail
  refine (unhide HN _).mono ?_
  rintro _ w3 ⟨rfl, hbl⟩
  have HR := hide ((unhide HR).below hbl)
  have HB := hide (bthen (unhide HB) hbl)
  clear hbl
  go_wp2_with fail
  refine (unhide HT _).mono ?_
  rintro _ w4 ⟨rfl, hbl⟩
  have HR := hide ((unhide HR).below hbl)
  have HB := hide (bthen (unhide HB) hbl)
  clear hbl
  obtain ⟨⟨v0, c0⟩, f0⟩ := (unhide HR) 0 (by omega)
  obtain ⟨⟨v1, c1⟩, f1⟩ := (unhide HR) 1 (by omega)
  obtain ⟨⟨v2, c2⟩, f2⟩ := (unhide HR) 2 (by omega)
  obtain ⟨⟨v3, c3⟩, f3⟩ := (unhide HR) 3 (by omega)
  go_wp2_with fail
  exact bodyPost_ret (v := .agg #[.bool n, .int .i64 2, .int .i64 0, .int .u64 0]) (by simp (maxDischargeDepth := 8) [results, Try.results17, go_sem, c0, c1, c2, c3]) rfl ⟨rfl, bset4 (unhide HB) _ _ _ _⟩

set_option maxRecDepth 100000 in
set_option maxHeartbeats 2000000 in
theorem refOpen_zer {w e f P Q b x xx yy : Int} {n : Bool} (W : World)
    (HX : Ct 33 #[.int .i64 w, .int .u64 x] (.int .i64 xx))
    (HY : Ct 34 #[.int .i64 w, .int .u64 x] (.int .u64 yy))
    (HN : Ct 35 #[.int .i64 w, .int .u64 x] (.bool n))
    (h : Kd w e f P Q b) (h1 : (xx == Q - 1) = false) (h3 : (xx == 0) = true) (h2 : (yy == 0) = true) :
    Calls Try.prog 17 #[.int .i64 w, .int .u64 x] W fun r W' => r = .returned (.agg #[.bool n, .int .i64 0, .int .i64 0, .int .u64 0]) ∧ Below W.heap.size W W' := by
  have HT := hide (fun W => refTop_any h W)
  clear h
  go_enter Try.func17, Try.ntmps17
  go_wp2_with fail
  refine (unhide HX _).mono ?_
  rintro _ w1 ⟨rfl, hbl⟩
  have HR := hide (room4 hbl)
  have HB := hide (bthen (below1 _ _) hbl)
  clear hbl
  go_wp2_with fail
  refine (unhide HY _).mono ?_
  rintro _ w2 ⟨rfl, hbl⟩
  have HR := hide ((unhide HR).below hbl)
  have HB := hide (bthen (unhide HB) hbl)
  clear hbl
  go_wp2_with fail
  refine (unhide HN _).mono ?_
  rintro _ w3 ⟨rfl, hbl⟩
  have HR := hide ((unhide HR).below hbl)
  have HB := hide (bthen (unhide HB) hbl)
  clear hbl
  go_wp2_with fail
  refine (unhide HT _).mono ?_
  rintro _ w4 ⟨rfl, hbl⟩
  have HR := hide ((unhide HR).below hbl)
  have HB := hide (bthen (unhide HB) hbl)
  clear hbl
  obtain ⟨⟨v0, c0⟩, f0⟩ := (unhide HR) 0 (by omega)
  obtain ⟨⟨v1, c1⟩, f1⟩ := (unhide HR) 1 (by omega)
  obtain ⟨⟨v2, c2⟩, f2⟩ := (unhide HR) 2 (by omega)
  obtain ⟨⟨v3, c3⟩, f3⟩ := (unhide HR) 3 (by omega)
  go_wp2_with fail
  exact bodyPost_ret (v := .agg #[.bool n, .int .i64 0, .int .i64 0, .int .u64 0]) (by simp (maxDischargeDepth := 8) [results, Try.results17, go_sem, c0, c1, c2, c3]) rfl ⟨rfl, bset4 (unhide HB) _ _ _ _⟩

set_option maxRecDepth 100000 in
set_option maxHeartbeats 2000000 in
theorem refOpen_sub {w e f P Q b x xx yy : Int} {n : Bool} (W : World)
    (HX : Ct 33 #[.int .i64 w, .int .u64 x] (.int .i64 xx))
    (HY : Ct 34 #[.int .i64 w, .int .u64 x] (.int .u64 yy))
    (HN : Ct 35 #[.int .i64 w, .int .u64 x] (.bool n))
    (h : Kd w e f P Q b) (h1 : (xx == Q - 1) = false) (h3 : (xx == 0) = true) (h2 : (yy == 0) = false) (k1 : IntKind.i64.wrap (1 - b) = 1 - b) (k2 : IntKind.i64.wrap (1 - b - f) = 1 - b - f) :
    Calls Try.prog 17 #[.int .i64 w, .int .u64 x] W fun r W' => r = .returned (.agg #[.bool n, .int .i64 1, .int .i64 (1 - b - f), .int .u64 yy]) ∧ Below W.heap.size W W' := by
  have HT := hide (fun W => refTop_any h W)
  have HBb := hide (fun W => refB_any h W)
  have HF := hide (fun W => refF_any h W)
  clear h
  go_enter Try.func17, Try.ntmps17
  go_wp2_with fail
  refine (unhide HX _).mono ?_
  rintro _ w1 ⟨rfl, hbl⟩
  have HR := hide (room4 hbl)
  have HB := hide (bthen (below1 _ _) hbl)
  clear hbl
  go_wp2_with fail
  refine (unhide HY _).mono ?_
  rintro _ w2 ⟨rfl, hbl⟩
  have HR := hide ((unhide HR).below hbl)
  have HB := hide (bthen (unhide HB) hbl)
  clear hbl
  go_wp2_with fail
  refine (unhide HN _).mono ?_
  rintro _ w3 ⟨rfl, hbl⟩
  have HR := hide ((unhide HR).below hbl)
  have HB := hide (bthen (unhide HB) hbl)
  clear hbl
  go_wp2_with fail
  refine (unhide HT _).mono ?_
  rintro _ w4 ⟨rfl, hbl⟩
  have HR := hide ((unhide HR).below hbl)
  have HB := hide (bthen (unhide HB) hbl)
  clear hbl
  go_wp2_with fail
  refine (unhide HBb _).mono ?_
  rintro _ w5 ⟨rfl, hbl⟩
  have HR := hide ((unhide HR).below hbl)
  have HB := hide (bthen (unhide HB) hbl)
  clear hbl
  go_wp2_with fail
  refine (unhide HF _).mono ?_
  rintro _ w6 ⟨rfl, hbl⟩
  have HR := hide ((unhide HR).below hbl)
  have HB := hide (bthen (unhide HB) hbl)
  clear hbl
  obtain ⟨⟨v0, c0⟩, f0⟩ := (unhide HR) 0 (by omega)
  obtain ⟨⟨v1, c1⟩, f1⟩ := (unhide HR) 1 (by omega)
  obtain ⟨⟨v2, c2⟩, f2⟩ := (unhide HR) 2 (by omega)
  obtain ⟨⟨v3, c3⟩, f3⟩ := (unhide HR) 3 (by omega)
  go_wp2_with fail
  exact bodyPost_ret (v := .agg #[.bool n, .int .i64 1, .int .i64 (1 - b - f), .int .u64 yy]) (by simp (maxDischargeDepth := 8) [results, Try.results17, go_sem, c0, c1, c2, c3]) rfl ⟨rfl, bset4 (unhide HB) _ _ _ _⟩

set_option maxRecDepth 100000 in
set_option maxHeartbeats 2000000 in
theorem refOpen_nor {w e f P Q b x xx yy : Int} {n : Bool} (W : World)
    (HX : Ct 33 #[.int .i64 w, .int .u64 x] (.int .i64 xx))
    (HY : Ct 34 #[.int .i64 w, .int .u64 x] (.int .u64 yy))
    (HN : Ct 35 #[.int .i64 w, .int .u64 x] (.bool n))
    (h : Kd w e f P Q b) (h1 : (xx == Q - 1) = false) (h3 : (xx == 0) = false) (k1 : IntKind.i64.wrap (xx - b) = xx - b) (k2 : IntKind.i64.wrap (xx - b - f) = xx - b - f) (k3 : IntKind.u64.wrap (P + yy) = P + yy) :
    Calls Try.prog 17 #[.int .i64 w, .int .u64 x] W fun r W' => r = .returned (.agg #[.bool n, .int .i64 1, .int .i64 (xx - b - f), .int .u64 (P + yy)]) ∧ Below W.heap.size W W' := by
  have HT := hide (fun W => refTop_any h W)
  have HBb := hide (fun W => refB_any h W)
  have HF := hide (fun W => refF_any h W)
  have H2 := hide (fun W => two_f h W)
  clear h
  go_enter Try.func17, Try.ntmps17
  go_wp2_with fail
  refine (unhide HX _).mono ?_
  rintro _ w1 ⟨rfl, hbl⟩
  have HR := hide (room4 hbl)
  have HB := hide (bthen (below1 _ _) hbl)
  clear hbl
  go_wp2_with fail
  refine (unhide HY _).mono ?_
  rintro _ w2 ⟨rfl, hbl⟩
  have HR := hide ((unhide HR).below hbl)
  have HB := hide (bthen (unhide HB) hbl)
  clear hbl
  go_wp2_with fail
  refine (unhide HN _).mono ?_
  rintro _ w3 ⟨rfl, hbl⟩
  have HR := hide ((unhide HR).below hbl)
  have HB := hide (bthen (unhide HB) hbl)
  clear hbl
  go_wp2_with fail
  refine (unhide HT _).mono ?_
  rintro _ w4 ⟨rfl, hbl⟩
  have HR := hide ((unhide HR).below hbl)
  have HB := hide (bthen (unhide HB) hbl)
  clear hbl
  go_wp2_with fail
  refine (unhide HBb _).mono ?_
  rintro _ w5 ⟨rfl, hbl⟩
  have HR := hide ((unhide HR).below hbl)
  have HB := hide (bthen (unhide HB) hbl)
  clear hbl
  go_wp2_with fail
  refine (unhide HF _).mono ?_
  rintro _ w6 ⟨rfl, hbl⟩
  have HR := hide ((unhide HR).below hbl)
  have HB := hide (bthen (unhide HB) hbl)
  clear hbl
  go_wp2_with fail
  refine (unhide HF _).mono ?_
  rintro _ w7 ⟨rfl, hbl⟩
  have HR := hide ((unhide HR).below hbl)
  have HB := hide (bthen (unhide HB) hbl)
  clear hbl
  go_wp2_with fail
  refine (unhide H2 _).mono ?_
  rintro _ w8 ⟨rfl, hbl⟩
  have HR := hide ((unhide HR).below hbl)
  have HB := hide (bthen (unhide HB) hbl)
  clear hbl
  obtain ⟨⟨v0, c0⟩, f0⟩ := (unhide HR) 0 (by omega)
  obtain ⟨⟨v1, c1⟩, f1⟩ := (unhide HR) 1 (by omega)
  obtain ⟨⟨v2, c2⟩, f2⟩ := (unhide HR) 2 (by omega)
  obtain ⟨⟨v3, c3⟩, f3⟩ := (unhide HR) 3 (by omega)
  go_wp2_with fail
  exact bodyPost_ret (v := .agg #[.bool n, .int .i64 1, .int .i64 (xx - b - f), .int .u64 (P + yy)]) (by simp (maxDischargeDepth := 8) [results, Try.results17, go_sem, c0, c1, c2, c3]) rfl ⟨rfl, bset4 (unhide HB) _ _ _ _⟩

theorem refOpen_any {w e f P Q b : Int} (x : Int) {N : Bool} {K X S : Int} (h : Kd w e f P Q b) (W : World) (h0 : 0 ≤ x) (h1 : x < 18446744073709551616)
    (ho : Opened f P Q b (sg P Q x) (x / P % Q) (x % P) N K X S) :
    Calls Try.prog 17 #[.int .i64 w, .int .u64 x] W fun r W' => r = .returned (.agg #[.bool N, .int .i64 K, .int .i64 X, .int .u64 S]) ∧ Below W.heap.size W W' := by
  have HX := hide (fun W => refExp_any x h W h0 h1)
  have HY := hide (fun W => refFrac_any x h W h0)
  have HN := hide (fun W => refNeg_any x h W h0 h1)
  obtain ⟨p1, p2, q1, q2⟩ := h.wd.sz.pos
  obtain ⟨u, v⟩ := exp_in (x / P) q1
  obtain ⟨u', v'⟩ := exp_in x p1
  have hb : 0 ≤ b ∧ b ≤ 2000 ∧ 0 ≤ f ∧ f ≤ 60 := by rcases h with h | h <;> omega
  rcases ho with ⟨a, -⟩ | ⟨a, c, d, rfl, rfl, rfl, rfl⟩ | ⟨a, c, d, rfl, rfl, rfl, rfl⟩ | ⟨a, c, d, rfl, rfl, rfl, rfl⟩ | ⟨a, c, d, g, rfl, rfl, rfl, rfl⟩ | ⟨a, c, d, g, rfl, rfl, rfl, rfl⟩
  · exact absurd a h.f0
  · exact refOpen_nan W HX HY HN h (eq_t c) (ne_t d)
  · exact refOpen_inf W HX HY HN h (eq_t c) (ne_f d)
  · exact refOpen_nor W HX HY HN h (eq_f c) (eq_f d) (i64_id (by omega) (by omega)) (i64_id (by omega) (by omega)) (by rw [IntKind.wrap_u64]; omega)
  · exact refOpen_sub W HX HY HN h (eq_f c) (eq_t d) (eq_f g) (i64_id (by omega) (by omega)) (i64_id (by omega) (by omega))
  · exact refOpen_zer W HX HY HN h (eq_f c) (eq_t d) (eq_t g)

end Go.Proofs.Ytmbkpmcmhmldgaa
