/- For every int w and all words a and b the law QuotientKeeps answers true, and w, a and b read as before: by one it is what it was; by itself it is one; signs multiply; no condition. -/
import Derived.Test.YtcgnlpamfhdiiaaG20
import Derived.Test.YtcgnlpamfhdiiaaG21
namespace Go.Proofs.Ytcgnlpamfhdiiaa
open Go.ChangeShapes Go.WideShapes Go.ChangeAt Go.RowKit Go.Joins
open Go.Proofs.Ytcgnlpamfhdiiaa.W

theorem quotientKeeps_any (w x y : Int) (W : World) (x0 : 0 ≤ x) (x1 : x < 18446744073709551616) (y0 : 0 ≤ y) (y1 : y < 18446744073709551616) :
    Calls Try.prog 4 #[.int .i64 w, .int .u64 x, .int .u64 y] W fun r W' => r = .returned (.bool true) ∧ Below W.heap.size W W' := by
  obtain ⟨e, f, P, Q, b, h⟩ := wd_ex w
  have HW := hide awake_any
  by_cases hf : f = 0
  · have hw : w ≠ 32 ∧ w ≠ 64 := by
      rcases h with h | h | h
      · omega
      · omega
      · exact h.1
    exact keeps_no W (ne_t hw.1) (ne_t hw.2) HW
  have k := h.known hf
  have HN : Hid (∀ W, Calls Try.prog 16 #[.int .i64 w] W fun r W' => r = .returned (.int .u64 (nanB f P Q)) ∧ Below W.heap.size W W') := hide (fun W => nan_any k.wd W)
  have HZ := hide (fun W => zero_any true k.wd W)
  have hb : 1 ≤ b ∧ b < Q - 1 := by rcases k with ⟨-, -, -, -, rfl, rfl⟩ | ⟨-, -, -, -, rfl, rfl⟩ <;> omega
  obtain ⟨o0, o1, o2, -⟩ := pow_any k hb.1 hb.2
  have HO := hide (fun W => refOne_any k W)
  have HI := fun W => inv_any k W o0 o1
  rw [div_self k o2] at HI
  have HI := hide HI
  have HD := hide (fun W => div_any k W x0 x1 y0 y1)
  obtain ⟨X, S, hop, -, -⟩ := open_kd k x
  have HP := hide (fun W => open_any x k.wd W x0 x1 hop)
  have HT := fun v (v0 : 0 ≤ v) (v1 : v < 18446744073709551616) => hide (fun W => isNanW_any v k.wd W v0 v1)
  have HC := fun v (v0 : 0 ≤ v) (v1 : v < 18446744073709551616) => hide (fun W => cut_any v k.wd W v0 v1)
  obtain ⟨x', hx', u0, u1, u2, u3, u4⟩ := other_sign k x0 x1
  obtain ⟨y', hy', v0, v1, v2, v3, v4⟩ := other_sign k y0 y1
  have HD2 := hide (fun W => div_any k W u0 u1 y0 y1)
  have HD3 := hide (fun W => div_any k W x0 x1 v0 v1)
  have HD4 := hide (fun W => div_any k W x0 x1 o0 o1)
  have HD5 := hide (fun W => div_any k W x0 x1 x0 x1)
  have e1 : oK P Q x' = oK P Q x := by unfold oK; rw [u2, u3]
  have e2 : oM f P Q b x' = oM f P Q b x := by unfold oM oc; rw [u2, u3]
  have e3 : oK P Q y' = oK P Q y := by unfold oK; rw [v2, v3]
  have e4 : oM f P Q b y' = oM f P Q b y := by unfold oM oc; rw [v2, v3]
  rcases div_form k (oK P Q x) (oK P Q y) (oM f P Q b x) (oM f P Q b y) with hs | ⟨c, c0, c1, hs⟩
  · rw [show divB f P Q b x y = nanB f P Q from hs _ _] at HD
    rw [show divB f P Q b x' y = nanB f P Q by unfold divB; rw [e1, e2]; exact hs _ _] at HD2
    obtain ⟨m0, m1, m2, m3, m4⟩ := nan_facts k
    have HTn := HT _ m0 m1
    have HCn := HC _ m0 m1
    rw [m4] at HTn
    rw [m3] at HCn
    rcases kd_in k with g1 | ⟨g1, g2⟩
    · exact keeps_n32 W g1 HW HO HI HZ HD HP HCn hx' HTn HN HD2
    · exact keeps_n64 W g1 g2 HW HO HI HZ HD HP HCn hx' HTn HN HD2
  · have k3 : oK P Q x ≠ 3 ∧ oK P Q y ≠ 3 := by
      have h1 := hs false false
      have h2 := (nan_facts k).2.2.2.2
      have h4 := (fl_facts k (false != false) c0 c1).2.2.2.2.2
      refine ⟨fun h3 => ?_, fun h3 => ?_⟩
      · unfold divP at h1
        rw [if_pos (Or.inl h3)] at h1
        rw [← h1, h2] at h4
        exact absurd h4 (by decide)
      · unfold divP at h1
        rw [if_pos (Or.inr (Or.inl h3))] at h1
        rw [← h1, h2] at h4
        exact absurd h4 (by decide)
    obtain ⟨-, -, e5⟩ := other_parts (f := f) (b := b) k3.1 u2 u3 u4
    obtain ⟨-, -, e6⟩ := other_parts (f := f) (b := b) k3.2 v2 v3 v4
    rw [show divB f P Q b x y = fl f P Q (oN P Q x != oN P Q y) c from hs _ _] at HD
    rw [show divB f P Q b x' y = fl f P Q (!(oN P Q x != oN P Q y)) c by
      unfold divB
      rw [e1, e2, e5, hs]
      cases oN P Q x <;> cases oN P Q y <;> rfl] at HD2
    rw [show divB f P Q b x y' = fl f P Q (!(oN P Q x != oN P Q y)) c by
      unfold divB
      rw [e3, e4, e6, hs]
      cases oN P Q x <;> cases oN P Q y <;> rfl] at HD3
    have ks := xor_fl k (oN P Q x != oN P Q y) c0 c1
    obtain ⟨r0, r1, -, -, r4, r5⟩ := fl_facts k (oN P Q x != oN P Q y) c0 c1
    have HTs := HT _ r0 r1
    have HCs := HC _ r0 r1
    rw [r5] at HTs
    rw [r4] at HCs
    rw [div_one k k3.1] at HD4
    by_cases h1 : oK P Q x = 1
    · rw [div_self k h1] at HD5
      rw [h1] at HP
      rcases kd_in k with g1 | ⟨g1, g2⟩
      · exact keeps_f32 W g1 HW HO HI HZ HD HP HCs hx' HTs hy' ks HD2 HD3 HD4 (HC _ x0 x1) HD5
      · exact keeps_f64 W g1 g2 HW HO HI HZ HD HP HCs hx' HTs hy' ks HD2 HD3 HD4 (HC _ x0 x1) HD5
    · rcases kd_in k with g1 | ⟨g1, g2⟩
      · exact keeps_o32 W g1 HW HO HI HZ HD HP HCs hx' HTs hy' ks HD2 HD3 HD4 (HC _ x0 x1) (ne_t h1)
      · exact keeps_o64 W g1 g2 HW HO HI HZ HD HP HCs hx' HTs hy' ks HD2 HD3 HD4 (HC _ x0 x1) (ne_t h1)

set_option maxRecDepth 100000 in
theorem quotientKeeps_lifted (os : Os) (started : os.Started) (H : Type) (enc : TypeId × Value → H) :
    ReturnsInHanded {} Try.checked os 4 .any (Rows.quotientKeepsSpec.pre6 enc Try.prog Try.f4 Rows.quotientKeepsRow.domain false) (Rows.quotientKeepsSpec.post enc Try.prog Try.f4 false true false false) := by
  refine returnsInHanded_of_change (C := Try.checked) Try.own started (by kernel_rfl) Try.func4
    (ChangeSpec.witness6 (enc := enc) (C := Try.checked) false ⟨#[], #[.int .i64 0, .int .u64 0, .int .u64 0], []⟩ 8 (by kernel_rfl) (by kernel_rfl) (by kernel_rfl) (by kernel_rfl)) ?_
  intro W base args ds gs before hval0 hW hcnd _
  have hval : ∀ (j : Nat) t v, Try.f4.params[j]? = some t → args[j]? = some v → Value.okWide Try.prog W .any base t v := hval0
  have hW' := hW
  obtain ⟨p, q, hA0, hV, rfl, hfz, hnd⟩ := hW
  have hA : DataW.TrodAll enc Try.prog W 0 (fun _ => true) true Try.f4.params.toList args.toList ds p := hA0
  rw [Try.params4] at hA hval
  obtain ⟨v0, v1, v2, d0, d1, d2, p0, p1, p2, rfl, rfl, rfl, h0, h1, h2⟩ := trodAll_three hA
  obtain ⟨rfl, rfl⟩ := trodVars_none hV
  obtain ⟨w, rfl, rfl, rfl, ww⟩ := open_int Try.underlying3 (hval 0 3 v0 rfl rfl) h0
  obtain ⟨x, rfl, rfl, rfl, wx⟩ := open_int Try.underlying22 (hval 1 22 v1 rfl rfl) h1
  obtain ⟨y, rfl, rfl, rfl, wy⟩ := open_int Try.underlying22 (hval 2 22 v2 rfl rfl) h2
  clear hA0 hval0
  simp only [List.append_nil] at hW'
  refine (quotientKeeps_any w x y W  (word_of_wf wx).1 (word_of_wf wx).2 (word_of_wf wy).1 (word_of_wf wy).2).mono fun e W' ⟨he, hb⟩ => ?_
  subst he
  exact ⟨_, rfl, ⟨_, _, _, [], [], [], hW', trodAll_mk1 (shut_bool Try.underlying4 _), trodAll_mk3 (shut_int Try.underlying3 ww) (shut_int Try.underlying22 wx) (shut_int Try.underlying22 wy), rfl, hb.frame _, fun h => by cases h⟩⟩

theorem quotientKeeps_holds : Rows.QuotientKeepsSaid :=
  OpenClaim.holds_of_wide 4 Try.f4 rfl rfl rfl rfl rfl rfl rfl ⟨rfl, rfl, rfl, rfl, rfl⟩ rfl rfl rfl rfl rfl (by kernel_rfl) Try.func4 (by kernel_rfl)
    (of_decide_eq_true (by kernel_rfl)) (by unfold Func.isWrapper; first | (rw [if_pos (by decide +kernel)]; kernel_rfl) | (rw [if_neg (by decide +kernel)]; exact ⟨rfl, rfl⟩))
    (fun os started H enc _ => quotientKeeps_lifted os started H enc)

#print axioms quotientKeeps_holds
end Go.Proofs.Ytcgnlpamfhdiiaa
