/- For every int w and all words a and b the law SumKeeps answers true, and w, a and b read as before: a sum does not hang on the order; a finite number less itself is nought without a sign; with nought it is what it was; no condition. -/
import Derived.Test.YticbhdgamblmbaaKeeps32
import Derived.Test.YticbhdgamblmbaaKeeps64
import Derived.Test.YticbhdgamblmbaaSumD
import Derived.Test.YticbhdgamblmbaaNumber
namespace Go.Proofs.Yticbhdgamblmbaa
open Go.ChangeShapes Go.WideShapes Go.ChangeAt Go.RowKit Go.Joins
open Go.Proofs.Yticbhdgamblmbaa.W

theorem sumKeeps_any (w x y : Int) (W : World) (x0 : 0 ≤ x) (x1 : x < 18446744073709551616) (y0 : 0 ≤ y) (y1 : y < 18446744073709551616) :
    Calls Try.prog 5 #[.int .i64 w, .int .u64 x, .int .u64 y] W fun r W' => r = .returned (.bool true) ∧ Below W.heap.size W W' := by
  obtain ⟨e, f, P, Q, b, h⟩ := wd_ex w
  by_cases hf : f = 0
  · have hw : w ≠ 32 ∧ w ≠ 64 := by
      rcases h with h | h | h
      · omega
      · omega
      · exact h.1
    exact keeps_no W (ne_t hw.1) (ne_t hw.2) (hide awake_any)
  have k := h.known hf
  have HW := hide awake_any
  have HN : Hid (∀ W, Calls Try.prog 16 #[.int .i64 w] W fun r W' => r = .returned (.int .u64 (nanB f P Q)) ∧ Below W.heap.size W W') := hide (fun W => nan_any k.wd W)
  have HA1 := hide (fun W => sumAdd_any k W x0 x1 y0 y1)
  have HA2 := hide (fun W => sumAdd_any k W y0 y1 x0 x1)
  have HS := hide (fun W => sumSub_any k W y0 y1 x0 x1)
  have HX := hide (fun W => sumSub_any k W x0 x1 x0 x1)
  rw [addB_comm f P Q b y x] at HA2
  obtain ⟨X, S, o1, -, -⟩ := open_kd k x
  have HO := hide (fun W => open_any x k.wd W x0 x1 o1)
  have HT := fun v (v0 : 0 ≤ v) (v1 : v < 18446744073709551616) => hide (fun W => isNanW_any v k.wd W v0 v1)
  have HC := fun v (v0 : 0 ≤ v) (v1 : v < 18446744073709551616) => hide (fun W => cut_any v k.wd W v0 v1)
  obtain ⟨m0, m1, m2, m3, m4⟩ := nan_facts k
  have HTn := HT _ m0 m1
  have HCn := HC _ m0 m1
  rw [m4] at HTn
  rw [m3] at HCn
  by_cases k3 : oK P Q x = 3
  · obtain ⟨a1, a2⟩ := add_nan (f := f) (b := b) (y := y) k3
    rw [a1] at HA1 HA2
    rw [a2] at HS
    rw [k3] at HO
    rcases kd_in k with g1 | ⟨g1, g2⟩
    · exact keeps_n32 W g1 HW HA1 HA2 HTn HN HCn HO HS
    · exact keeps_n64 W g1 g2 HW HA1 HA2 HTn HN HCn HO HS
  obtain ⟨x', hx', u0, u1, u2, u3, u4⟩ := other_sign k x0 x1
  have HZ := hide (fun W => zero_any true k.wd W)
  have HA3 := hide (fun W => sumAdd_any k W y0 y1 u0 u1)
  rw [← sub_add y k3 u2 u3 u4] at HA3
  have HA4 := hide (fun W => sumAdd_any (y := 0) k W x0 x1 (by omega) (by omega))
  have HC2 := HC _ x0 x1
  have hK := kind_oc k x
  obtain ⟨s1, s2⟩ := sub_self (x := x) k
  rcases add_form k (oN P Q x) (oN P Q y) (oK P Q x) (oK P Q y) (oM f P Q b x) (oM f P Q b y) with hs | ⟨n, c, c0, c1, hs⟩
  · rw [show addB f P Q b x y = nanB f P Q from hs] at HA1 HA2
    by_cases k2 : oK P Q x = 2
    · rw [add_nought k k3 (by omega)] at HA4
      rw [s1 k2] at HX
      rw [k2] at HO
      rcases kd_in k with g1 | ⟨g1, g2⟩
      · exact keeps_it32 W g1 HW HA1 HA2 HTn HN HCn HO HX HS HZ hx' HA3 HA4 HC2
      · exact keeps_it64 W g1 g2 HW HA1 HA2 HTn HN HCn HO HX HS HZ hx' HA3 HA4 HC2
    · rw [s2 k2 k3] at HX
      by_cases k0 : oK P Q x = 0
      · rw [k0] at HO
        rcases kd_in k with g1 | ⟨g1, g2⟩
        · exact keeps_zt32 W g1 HW HA1 HA2 HTn HN HCn HO HX HS HZ hx' HA3
        · exact keeps_zt64 W g1 g2 HW HA1 HA2 HTn HN HCn HO HX HS HZ hx' HA3
      · rw [add_nought k k3 k0] at HA4
        have k1 : oK P Q x = 1 := by omega
        rw [k1] at HO
        rcases kd_in k with g1 | ⟨g1, g2⟩
        · exact keeps_ot32 W g1 HW HA1 HA2 HTn HN HCn HO HX HS HZ hx' HA3 HA4 HC2
        · exact keeps_ot64 W g1 g2 HW HA1 HA2 HTn HN HCn HO HX HS HZ hx' HA3 HA4 HC2
  · obtain ⟨r0, r1, -, -, r4, r5⟩ := fl_facts k n c0 c1
    rw [show addB f P Q b x y = fl f P Q n c from hs] at HA1 HA2
    have HTs := HT _ r0 r1
    have HCs := HC _ r0 r1
    rw [r5] at HTs
    rw [r4] at HCs
    by_cases k2 : oK P Q x = 2
    · rw [add_nought k k3 (by omega)] at HA4
      rw [s1 k2] at HX
      rw [k2] at HO
      rcases kd_in k with g1 | ⟨g1, g2⟩
      · exact keeps_if32 W g1 HW HA1 HA2 HTs HN HCs HO HX HS HZ hx' HA3 HA4 HC2
      · exact keeps_if64 W g1 g2 HW HA1 HA2 HTs HN HCs HO HX HS HZ hx' HA3 HA4 HC2
    · rw [s2 k2 k3] at HX
      by_cases k0 : oK P Q x = 0
      · rw [k0] at HO
        rcases kd_in k with g1 | ⟨g1, g2⟩
        · exact keeps_zf32 W g1 HW HA1 HA2 HTs HCs HO HX HS HZ hx' HA3
        · exact keeps_zf64 W g1 g2 HW HA1 HA2 HTs HCs HO HX HS HZ hx' HA3
      · rw [add_nought k k3 k0] at HA4
        have k1 : oK P Q x = 1 := by omega
        rw [k1] at HO
        rcases kd_in k with g1 | ⟨g1, g2⟩
        · exact keeps_of32 W g1 HW HA1 HA2 HTs HCs HO HX HS HZ hx' HA3 HA4 HC2
        · exact keeps_of64 W g1 g2 HW HA1 HA2 HTs HCs HO HX HS HZ hx' HA3 HA4 HC2

set_option maxRecDepth 100000 in
theorem sumKeeps_lifted (os : Os) (started : os.Started) (H : Type) (enc : TypeId × Value → H) :
    ReturnsInHanded {} Try.checked os 5 .any (Rows.sumKeepsSpec.pre6 enc Try.prog Try.f5 Rows.sumKeepsRow.domain false) (Rows.sumKeepsSpec.post enc Try.prog Try.f5 false true false false) := by
  refine returnsInHanded_of_change (C := Try.checked) Try.own started (by kernel_rfl) Try.func5
    (ChangeSpec.witness6 (enc := enc) (C := Try.checked) false ⟨#[], #[.int .i64 0, .int .u64 0, .int .u64 0], []⟩ 8 (by kernel_rfl) (by kernel_rfl) (by kernel_rfl) (by kernel_rfl)) ?_
  intro W base args ds gs before hval0 hW hcnd _
  have hval : ∀ (j : Nat) t v, Try.f5.params[j]? = some t → args[j]? = some v → Value.okWide Try.prog W .any base t v := hval0
  have hW' := hW
  obtain ⟨p, q, hA0, hV, rfl, hfz, hnd⟩ := hW
  have hA : DataW.TrodAll enc Try.prog W 0 (fun _ => true) true Try.f5.params.toList args.toList ds p := hA0
  rw [Try.params5] at hA hval
  obtain ⟨v0, v1, v2, d0, d1, d2, p0, p1, p2, rfl, rfl, rfl, h0, h1, h2⟩ := trodAll_three hA
  obtain ⟨rfl, rfl⟩ := trodVars_none hV
  obtain ⟨w, rfl, rfl, rfl, ww⟩ := open_int Try.underlying3 (hval 0 3 v0 rfl rfl) h0
  obtain ⟨x, rfl, rfl, rfl, wx⟩ := open_int Try.underlying22 (hval 1 22 v1 rfl rfl) h1
  obtain ⟨y, rfl, rfl, rfl, wy⟩ := open_int Try.underlying22 (hval 2 22 v2 rfl rfl) h2
  clear hA0 hval0
  simp only [List.append_nil] at hW'
  refine (sumKeeps_any w x y W (word_of_wf wx).1 (word_of_wf wx).2 (word_of_wf wy).1 (word_of_wf wy).2).mono fun e W' ⟨he, hb⟩ => ?_
  subst he
  exact ⟨_, rfl, ⟨_, _, _, [], [], [], hW', trodAll_mk1 (shut_bool Try.underlying4 _), trodAll_mk3 (shut_int Try.underlying3 ww) (shut_int Try.underlying22 wx) (shut_int Try.underlying22 wy), rfl, hb.frame _, fun h => by cases h⟩⟩

theorem sumKeeps_holds : Rows.SumKeepsSaid :=
  OpenClaim.holds_of_wide 5 Try.f5 rfl rfl rfl rfl rfl rfl rfl ⟨rfl, rfl, rfl, rfl, rfl⟩ rfl rfl rfl rfl rfl (by kernel_rfl) Try.func5 (by kernel_rfl)
    (of_decide_eq_true (by kernel_rfl)) (by unfold Func.isWrapper; first | (rw [if_pos (by decide +kernel)]; kernel_rfl) | (rw [if_neg (by decide +kernel)]; exact ⟨rfl, rfl⟩))
    (fun os started H enc _ => sumKeeps_lifted os started H enc)

#print axioms sumKeeps_holds
end Go.Proofs.Yticbhdgamblmbaa
