/- For every int w and all words a and b the law ProductKeeps answers true, and w, a and b read as before: a product does not hang on the order; times one it is what it was; signs multiply; no condition. -/
import Derived.Test.YtlkmongiknpejaaG28
import Derived.Test.YtlkmongiknpejaaG36
import Derived.Test.YtlkmongiknpejaaG37
namespace Go.Proofs.Ytlkmongiknpejaa
open Go.ChangeShapes Go.WideShapes Go.ChangeAt Go.RowKit Go.Joins
open Go.Proofs.Ytlkmongiknpejaa.W

theorem productKeeps_any (w x y : Int) (W : World) (x0 : 0 ≤ x) (x1 : x < 18446744073709551616) (y0 : 0 ≤ y) (y1 : y < 18446744073709551616) :
    Calls Try.prog 5 #[.int .i64 w, .int .u64 x, .int .u64 y] W fun r W' => r = .returned (.bool true) ∧ Below W.heap.size W W' := by
  obtain ⟨e, f, P, Q, b, h⟩ := wd_ex w
  have HW := hide awake_any
  by_cases hf : f = 0
  · have hw : w ≠ 32 ∧ w ≠ 64 := by
      rcases h with h | h | h
      · omega
      · omega
      · exact h.1
    exact keeps_no W (ne_t hw.1) (ne_t hw.2) HW
  have k := h.known hf
  have HN : Hid (∀ W, Calls Try.prog 18 #[.int .i64 w] W fun r W' => r = .returned (.int .u64 (nanB f P Q)) ∧ Below W.heap.size W W') := hide (fun W => nan_any k.wd W)
  have HZ := hide (fun W => zero_any true k.wd W)
  have HA := hide (fun W => mul_any' k W x0 x1 y0 y1)
  have HA2 := hide (fun W => mul_any' k W y0 y1 x0 x1)
  rw [mulB_comm f P Q b y x] at HA2
  have HT := fun v (v0 : 0 ≤ v) (v1 : v < 18446744073709551616) => hide (fun W => isNanW_any v k.wd W v0 v1)
  have HC := fun v (v0 : 0 ≤ v) (v1 : v < 18446744073709551616) => hide (fun W => cut_any v k.wd W v0 v1)
  obtain ⟨x', hx', u0, u1, u2, u3, u4⟩ := other_sign k x0 x1
  have HA3 := hide (fun W => mul_any' k W u0 u1 y0 y1)
  have e1 : oK P Q x' = oK P Q x := by unfold oK; rw [u2, u3]
  have e2 : oM f P Q b x' = oM f P Q b x := by unfold oM oc; rw [u2, u3]
  rcases mul_form k (oK P Q x) (oK P Q y) (oM f P Q b x) (oM f P Q b y) with hs | ⟨c, c0, c1, hs⟩
  · rw [show mulB f P Q b x y = nanB f P Q from hs _ _] at HA HA2
    rw [show mulB f P Q b x' y = nanB f P Q by unfold mulB; rw [e1, e2]; exact hs _ _] at HA3
    obtain ⟨m0, m1, m2, m3, m4⟩ := nan_facts k
    have HTn := HT _ m0 m1
    have HCn := HC _ m0 m1
    rw [m4] at HTn
    rw [m3] at HCn
    rcases kd_in k with g1 | ⟨g1, g2⟩
    · exact keeps_n32 W g1 HW HA HZ HA2 HCn hx' HTn HN HA3
    · exact keeps_n64 W g1 g2 HW HA HZ HA2 HCn hx' HTn HN HA3
  · have k3 : oK P Q x ≠ 3 := fun h3 => by
      have h1 := hs false false
      unfold mulP at h1
      rw [if_pos (Or.inl h3)] at h1
      have h2 := (nan_facts k).2.2.2.2
      have h4 := (fl_facts k (false != false) c0 c1).2.2.2.2.2
      rw [← h1, h2] at h4
      exact absurd h4 (by decide)
    obtain ⟨-, -, e3⟩ := other_parts (f := f) (b := b) k3 u2 u3 u4
    rw [show mulB f P Q b x y = fl f P Q (oN P Q x != oN P Q y) c from hs _ _] at HA HA2
    rw [show mulB f P Q b x' y = fl f P Q (!(oN P Q x != oN P Q y)) c by
      unfold mulB
      rw [e1, e2, e3, hs]
      cases oN P Q x <;> cases oN P Q y <;> rfl] at HA3
    have ks := xor_fl k (oN P Q x != oN P Q y) c0 c1
    obtain ⟨r0, r1, -, -, r4, r5⟩ := fl_facts k (oN P Q x != oN P Q y) c0 c1
    have HTs := HT _ r0 r1
    have HCs := HC _ r0 r1
    rw [r5] at HTs
    rw [r4] at HCs
    have HTx := HT _ x0 x1
    have hnx : (x / P % Q == Q - 1 && x % P != 0) = false := by
      unfold oK at k3
      by_cases g1 : x / P % Q = Q - 1
      · rw [if_pos g1] at k3
        by_cases g2 : x % P = 0
        · simp [g2]
        · rw [if_neg g2] at k3
          exact absurd rfl k3
      · rw [eq_f g1]
        rfl
    rw [hnx] at HTx
    have HO := hide (fun W => all_none k W)
    obtain ⟨o0, o1⟩ := one_wrd k
    have HA4 := hide (fun W => mul_any' k W x0 x1 o0 o1)
    obtain ⟨v, hv, -, he⟩ := scale_both k 0 x0 x1
    have he := he (by omega) (by omega)
    have h1 := mul_pow (j := 0) k x (by omega) (by omega)
    rw [Int.add_zero] at h1
    rw [← h1, mul_one' k k3] at he
    rw [mul_one' k k3] at HA4
    subst he
    rcases kd_in k with g1 | ⟨g1, g2⟩
    · exact keeps_f32 W g1 HW HA HZ HA2 HCs hx' HTs HO HA3 ks HTx HA4 (HC _ x0 x1) (hide hv)
    · exact keeps_f64 W g1 g2 HW HA HZ HA2 HCs hx' HTs HO HA3 ks HTx HA4 (HC _ x0 x1) (hide hv)

set_option maxRecDepth 100000 in
theorem productKeeps_lifted (os : Os) (started : os.Started) (H : Type) (enc : TypeId × Value → H) :
    ReturnsInHanded {} Try.checked os 5 .any (Rows.productKeepsSpec.pre6 enc Try.prog Try.f5 Rows.productKeepsRow.domain false) (Rows.productKeepsSpec.post enc Try.prog Try.f5 false true false false) := by
  refine returnsInHanded_of_change (C := Try.checked) Try.own started (by kernel_rfl) Try.func5
    (ChangeSpec.witness6 (enc := enc) (C := Try.checked) false ⟨#[], #[.int .i64 0, .int .u64 0, .int .u64 0], []⟩ 8 (by kernel_rfl) (by kernel_rfl) (by kernel_rfl) (by kernel_rfl)) ?_
  intro W base args ds gs before hval0 hW hcnd _
  have hval : ∀ (j : Nat) t v, Try.f5.params[j]? = some t → args[j]? = some v → Value.okWide Try.prog W .any base t v := hval0
  have hW' := hW
  obtain ⟨p, q, hA0, hV, rfl, hfz, hnd⟩ := hW
  have hA : DataW.TrodAll enc Try.prog W 0 (fun _ => true) true Try.f5.params.toList args.toList ds p := hA0
  rw [Try.params5] at hA hval
  obtain ⟨v0, v1, v2, d0, d1, d2, p0, p1, p2, rfl, rfl, rfl, h0, h1, h2⟩ := trodAll_three hA
  obtain ⟨rfl, rfl⟩ := trodVars_none hV
  obtain ⟨w, rfl, rfl, rfl, ww⟩ := open_int Try.underlying3 (hval 0 3 v0 rfl rfl) h0
  obtain ⟨x, rfl, rfl, rfl, wx⟩ := open_int Try.underlying22 (hval 1 22 v1 rfl rfl) h1
  obtain ⟨y, rfl, rfl, rfl, wy⟩ := open_int Try.underlying22 (hval 2 22 v2 rfl rfl) h2
  clear hA0 hval0
  simp only [List.append_nil] at hW'
  refine (productKeeps_any w x y W (word_of_wf wx).1 (word_of_wf wx).2 (word_of_wf wy).1 (word_of_wf wy).2).mono fun e W' ⟨he, hb⟩ => ?_
  subst he
  exact ⟨_, rfl, ⟨_, _, _, [], [], [], hW', trodAll_mk1 (shut_bool Try.underlying4 _), trodAll_mk3 (shut_int Try.underlying3 ww) (shut_int Try.underlying22 wx) (shut_int Try.underlying22 wy), rfl, hb.frame _, fun h => by cases h⟩⟩

theorem productKeeps_holds : Rows.ProductKeepsSaid :=
  OpenClaim.holds_of_wide 5 Try.f5 rfl rfl rfl rfl rfl rfl rfl ⟨rfl, rfl, rfl, rfl, rfl⟩ rfl rfl rfl rfl rfl (by kernel_rfl) Try.func5 (by kernel_rfl)
    (of_decide_eq_true (by kernel_rfl)) (by unfold Func.isWrapper; first | (rw [if_pos (by decide +kernel)]; kernel_rfl) | (rw [if_neg (by decide +kernel)]; exact ⟨rfl, rfl⟩))
    (fun os started H enc _ => productKeeps_lifted os started H enc)

#print axioms productKeeps_holds
end Go.Proofs.Ytlkmongiknpejaa
