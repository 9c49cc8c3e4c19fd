/- For every int w, every word bits and every number x the law RoundKeeps answers true, and w, bits and x read as before: what is a float is rounded to itself, however its bits are written; a number and a half of its last bit more is never rounded to less, and its negative is rounded to the negative; no condition. -/
import Derived.Test.YtiklaalcmfkddaaKeeps
import Derived.Test.YtiklaalcmfkddaaKeepsA
import Derived.Test.YtiklaalcmfkddaaNumber
namespace Go.Proofs.Ytiklaalcmfkddaa
open Go.ChangeShapes Go.WideShapes Go.ChangeAt Go.RowKit Go.Joins
open Go.Proofs.Ytiklaalcmfkddaa.W

theorem keeps_any (w x : Int) (n m : Bool) (v : Nat) (X : Int) (W : World) (h0 : 0 ≤ x) (h1 : x < 18446744073709551616) (hv : W2 v) :
    Calls Try.prog 5 #[.int .i64 w, .int .u64 x, .agg #[.bool n, .int .u64 (hi v), .int .u64 (lo v), .int .i64 X, .bool m]] W fun r W' => r = .returned (.bool true) ∧ Below W.heap.size W W' := by
  obtain ⟨e, f, P, Q, b, h⟩ := wd_ex w
  by_cases hf : f = 0
  · have : w ≠ 32 ∧ w ≠ 64 := by
      rcases h with h | h | h
      · omega
      · omega
      · exact h.1
    exact keeps_no W (ne_t this.1) (ne_t this.2)
  have k := h.known hf
  obtain ⟨p1, p2, q1, q2⟩ := k.pos
  obtain ⟨N, K, E, S, o⟩ := opened_ex f P Q b (sg P Q x) (x / P % Q) (x % P)
  obtain ⟨u, v1⟩ := exp_in (x / P) (show 1 ≤ Q by omega)
  obtain ⟨u', v1'⟩ := exp_in x (show 1 ≤ P by omega)
  have HO := hide (fun W => open_any x h W h0 h1 o)
  have HPa := hide (fun W => pack_known v false false X k hv W)
  have HPb := hide (fun W => pack_known v false true X k hv W)
  have HD := hide (fun W => pack_known v true true X k hv W)
  have HI := fun W => inf_any false k.wd W
  rw [put_no k.f0, Int.add_zero] at HI
  have HZ := hide (fun W => zero_any true k.wd W)
  have kab := pack_mono k (show num v false (cap X) ≤ num v true (cap X) from Nat.mul_le_mul_right _ (by simp))
  obtain ⟨c0, c1⟩ := lid_in k (code f.toNat (lowN f b) (num v true (cap X)))
  have kbi : fl f P Q false (lid P Q (code f.toNat (lowN f b) (num v true (cap X)) : Nat)) ≤ (Q - 1) * P := by rw [fl_val k]; exact c1
  have ko := or_sign k c0 c1
  have HC := fun W => cut_any x h W h0 h1
  rw [← cut_put h.sz] at HC
  by_cases k3 : K = 3
  · rcases kd_in k with g1 | ⟨g1, g2⟩
    · exact keeps_nan32 W g1 HO HPa HPb (hide HI) HD HZ kab kbi ko (ne_f k3) (eq_f (by omega))
    · exact keeps_nan64 W g1 g2 HO HPa HPb (hide HI) HD HZ kab kbi ko (ne_f k3) (eq_f (by omega))
  · by_cases k1 : K = 1
    · subst k1
      obtain ⟨hn, e0, e1, s0, s1, hc⟩ := exact_code k o u v1 u' v1'
      have hw : W2 S.toNat := by unfold W2; omega
      have HS := fun W => of_n S W s0 (by omega)
      have hsh : shlN S.toNat 60 = S.toNat * 2 ^ 60 := by
        unfold shlN
        rw [show (60 : Int).toNat = 60 from rfl, Nat.mod_eq_of_lt (by omega)]
      have HL := fun W => left_n S.toNat 60 W hw
      rw [hsh] at HL
      have hw2 : W2 (S.toNat * 2 ^ 60) := by unfold W2; omega
      have HPn := fun W => pack_known S.toNat N false E k hw W
      rw [cap_id (by omega) (by omega), num_plain _ _ (by omega), hc] at HPn
      have HPc := fun W => pack_known (S.toNat * 2 ^ 60) N false (E - 60) k hw2 W
      rw [cap_id (by omega) (by omega), show E - 60 = E - (60 : Nat) from rfl, num_exact _ _ _ (by omega), hc] at HPc
      have HN := hide (fun W => narrow_fin (n := N) (K := 1) W (eq_f (by omega)) (eq_t rfl) (hide HS) (hide HPn))
      have ke : IntKind.i64.wrap (E - 60) = E - 60 := i64_id (by omega) (by omega)
      rcases kd_in k with g1 | ⟨g1, g2⟩
      · exact keeps_fin32 W g1 HO HPa HPb (hide HI) HD HZ kab kbi ko (ne_t k3) (eq_t rfl) HN (hide HC) (hide HS) (hide HL) ke (hide HPc)
      · exact keeps_fin64 W g1 g2 HO HPa HPb (hide HI) HD HZ kab kbi ko (ne_t k3) (eq_t rfl) HN (hide HC) (hide HS) (hide HL) ke (hide HPc)
    · have HN : Hid (∀ W, Calls Try.prog 12 #[.int .i64 w, .agg #[.bool N, .int .i64 K, .int .i64 E, .int .u64 S]] W fun r W' => r = .returned (.int .u64 (put f P Q (sg P Q x) (x / P % Q) (x % P))) ∧ Below W.heap.size W W') := by
        rcases o with ⟨a, -⟩ | ⟨-, c, d, -, g, -⟩ | ⟨-, c, d, rfl, rfl, -, -⟩ | ⟨-, c, d, -, g, -⟩ | ⟨-, c, d, _, -, g, -⟩ | ⟨-, c, d, g, rfl, rfl, -, -⟩
        · exact absurd a k.f0
        · exact absurd g k3
        · rw [c, d]
          exact fun W => narrow_inf W (by rfl) (by rfl) (by rfl) (hide (fun W => inf_any _ k.wd W))
        · exact absurd g k1
        · exact absurd g k1
        · rw [d, g]
          exact fun W => narrow_zero W (by rfl) (hide (fun W => zero_any _ k.wd W))
      rcases kd_in k with g1 | ⟨g1, g2⟩
      · exact keeps_oth32 W g1 HO HPa HPb (hide HI) HD HZ kab kbi ko (ne_t k3) (eq_f k1) HN (hide HC)
      · exact keeps_oth64 W g1 g2 HO HPa HPb (hide HI) HD HZ kab kbi ko (ne_t k3) (eq_f k1) HN (hide HC)

set_option maxRecDepth 100000 in
theorem roundKeeps_lifted (os : Os) (started : os.Started) (H : Type) (enc : TypeId × Value → H) :
    ReturnsInHanded {} Try.checked os 5 .any (Rows.roundKeepsSpec.pre6 enc Try.prog Try.f5 Rows.roundKeepsRow.domain false) (Rows.roundKeepsSpec.post enc Try.prog Try.f5 false true false false) := by
  refine returnsInHanded_of_change (C := Try.checked) Try.own started (by kernel_rfl) Try.func5
    (ChangeSpec.witness6 (enc := enc) (C := Try.checked) false ⟨#[], #[.int .i64 0, .int .u64 0, .agg #[.bool false, .int .u64 0, .int .u64 0, .int .i64 0, .bool false]], []⟩ 8 (by kernel_rfl) (by kernel_rfl) (by kernel_rfl) (by kernel_rfl)) ?_
  intro W base args ds gs before hval0 hW hcnd _
  have hval : ∀ (j : Nat) t v, Try.f5.params[j]? = some t → args[j]? = some v → Value.okWide Try.prog W .any base t v := hval0
  have hW' := hW
  obtain ⟨p, q, hA0, hV, rfl, hfz, hnd⟩ := hW
  have hA : DataW.TrodAll enc Try.prog W 0 (fun _ => true) true Try.f5.params.toList args.toList ds p := hA0
  rw [Try.params5] at hA hval
  obtain ⟨v0, v1, v2, d0, d1, d2, p0, p1, p2, rfl, rfl, rfl, h0, h1, h2⟩ := trodAll_three hA
  obtain ⟨rfl, rfl⟩ := trodVars_none hV
  obtain ⟨w, rfl, rfl, rfl, ww⟩ := open_int Try.underlying3 (hval 0 3 v0 rfl rfl) h0
  obtain ⟨x, rfl, rfl, rfl, wx⟩ := open_int Try.underlying22 (hval 1 22 v1 rfl rfl) h1
  obtain ⟨n, m, y, X, hy, rfl, rfl, rd⟩ := open_number (hval 2 26 v2 rfl rfl) h2
  clear hA0 hval0
  simp only [List.append_nil] at hW'
  refine (keeps_any w x n m y X W (word_of_wf wx).1 (word_of_wf wx).2 hy).mono fun e W' ⟨he, hb⟩ => ?_
  subst he
  exact ⟨_, rfl, ⟨_, _, _, [], [], [], hW', trodAll_mk1 (shut_bool Try.underlying4 _), trodAll_mk3 (shut_int Try.underlying3 ww) (shut_int Try.underlying22 wx) (rd _ _ _ _), rfl, hb.frame _, fun h => by cases h⟩⟩

theorem roundKeeps_holds : Rows.RoundKeepsSaid :=
  OpenClaim.holds_of_wide 5 Try.f5 rfl rfl rfl rfl rfl rfl rfl ⟨rfl, rfl, rfl, rfl, rfl⟩ rfl rfl rfl rfl rfl (by kernel_rfl) Try.func5 (by kernel_rfl)
    (of_decide_eq_true (by kernel_rfl)) (by unfold Func.isWrapper; first | (rw [if_pos (by decide +kernel)]; kernel_rfl) | (rw [if_neg (by decide +kernel)]; exact ⟨rfl, rfl⟩))
    (fun os started H enc _ => roundKeeps_lifted os started H enc)

#print axioms roundKeeps_holds
end Go.Proofs.Ytiklaalcmfkddaa
