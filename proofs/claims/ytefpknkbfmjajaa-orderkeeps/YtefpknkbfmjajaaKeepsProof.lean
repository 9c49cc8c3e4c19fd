/- For every int w and all uint64 a and b the law OrderKeeps answers true, and w, a and b read as before: of two numbers just one of below, the same, above is true; the lesser and the greater are these two and don't hang on the order; no condition. -/
import Derived.Test.YtefpknkbfmjajaaG20
import Derived.Test.YtefpknkbfmjajaaG36
import Derived.Test.YtefpknkbfmjajaaG38
import Derived.Test.YtefpknkbfmjajaaG39
import Derived.Test.YtefpknkbfmjajaaG40
namespace Go.Proofs.Ytefpknkbfmjajaa
open Go.ChangeShapes Go.WideShapes Go.ChangeAt Go.RowKit Go.Joins
open Go.Proofs.Ytefpknkbfmjajaa.W

theorem orderKeeps_any (w x y : Int) (W : World) (x0 : 0 ≤ x) (x1 : x < 18446744073709551616) (y0 : 0 ≤ y) (y1 : y < 18446744073709551616) :
    Calls Try.prog 5 #[.int .i64 w, .int .u64 x, .int .u64 y] W fun r W' => r = .returned (.bool true) ∧ Below W.heap.size W W' := by
  obtain ⟨e, f, P, Q, b, h⟩ := wd_ex w
  have HW := hide awake_any
  by_cases hf : f = 0
  · have hw : w ≠ 32 ∧ w ≠ 64 := by rcases h with h | h | h <;> omega
    exact keeps_no W (ne_t hw.1) (ne_t hw.2) HW
  have k := h.known hf
  have hw : w = 32 ∨ w ≠ 32 ∧ w = 64 := by rcases k with h | h <;> omega
  have HM := fun W => min_any k W x0 x1 y0 y1
  have HX := fun W => max_any k W x0 x1 y0 y1
  have HM2 := fun W => min_any k W y0 y1 x0 x1
  have HX2 := fun W => max_any k W y0 y1 x0 x1
  rw [min_comm k] at HM2
  rw [max_comm k] at HX2
  have HL := fun W => lt_any k W x0 x1 y0 y1
  have HE := fun W => eq_any k W x0 x1 y0 y1
  have HG := fun W => gt_any k W x0 x1 y0 y1
  have HI1 := fun W => isNanW_any x k.wd W x0 x1
  have HI2 := fun W => isNanW_any y k.wd W y0 y1
  have HN := hide (fun W => nan_any k.wd W)
  rcases cmpB_ways P Q x y with ⟨e1, -, hn⟩ | ⟨hx, hy, hc⟩
  · rw [pick_nan hn] at HM HX HM2 HX2
    rw [e1] at HL HE HG
    by_cases hx : oK P Q x = 3
    · rw [nan_t hx] at HI1
      rcases hw with hw | ⟨hw, hw'⟩
      · exact keeps_na32 W (ne_f hw) HW (hide HM) (hide HX) (hide HM2) (hide HX2) (hide HL) (hide HE) (hide HG) (hide HI1) HN
      · exact keeps_na64 W (ne_t hw) (ne_f hw') HW (hide HM) (hide HX) (hide HM2) (hide HX2) (hide HL) (hide HE) (hide HG) (hide HI1) HN
    · have hy : oK P Q y = 3 := by omega
      rw [nan_f hx] at HI1
      rw [nan_t hy] at HI2
      rcases hw with hw | ⟨hw, hw'⟩
      · exact keeps_nb32 W (ne_f hw) HW (hide HM) (hide HX) (hide HM2) (hide HX2) (hide HL) (hide HE) (hide HG) (hide HI1) (hide HI2) HN
      · exact keeps_nb64 W (ne_t hw) (ne_f hw') HW (hide HM) (hide HX) (hide HM2) (hide HX2) (hide HL) (hide HE) (hide HG) (hide HI1) (hide HI2) HN
  rw [nan_f hx] at HI1
  rw [nan_f hy] at HI2
  have HI1 := hide HI1
  have HI2 := hide HI2
  have HC1 := hide (fun W => cut_any x k.wd W x0 x1)
  have HC2 := hide (fun W => cut_any y k.wd W y0 y1)
  obtain ⟨a0, a1, -⟩ := cut_same k x
  obtain ⟨b0, b1, -⟩ := cut_same k y
  have HA := fun W => le_any k W a0 a1 b0 b1
  have HB := fun W => le_any k W b0 b1 a0 a1
  rw [cmp_cut k] at HA HB
  obtain ⟨i1, i2⟩ := min_key k hx hy
  obtain ⟨j1, j2⟩ := max_key k hx hy
  have hne : kk P Q y < kk P Q x → (cutN f P Q y == cutN f P Q x) = false := fun h => eq_f fun hh => by
    have e1 := kk_cut k x
    have e2 := kk_cut k y
    rw [hh] at e2
    omega
  rcases hc with ⟨e1, e2, h⟩ | ⟨e1, e2, h⟩ | ⟨e1, e2, h⟩ <;> rw [e1] at HL HE HG HA <;> rw [e2] at HB
  · have hk := kk_lt h
    rw [i1 (by omega)] at HM HM2
    rw [j2 (by omega)] at HX HX2
    rcases hw with hw | ⟨hw, hw'⟩
    · exact keeps_l32 W (ne_f hw) HW (hide HM) (hide HX) (hide HM2) (hide HX2) (hide HL) (hide HE) (hide HG) HI1 HI2 HC1 HC2 (hide HA)
    · exact keeps_l64 W (ne_t hw) (ne_f hw') HW (hide HM) (hide HX) (hide HM2) (hide HX2) (hide HL) (hide HE) (hide HG) HI1 HI2 HC1 HC2 (hide HA)
  · by_cases hk : kk P Q x ≤ kk P Q y
    · rw [i1 hk] at HM HM2
      rw [j2 hk] at HX HX2
      rcases hw with hw | ⟨hw, hw'⟩
      · exact keeps_e32 W (ne_f hw) HW (hide HM) (hide HX) (hide HM2) (hide HX2) (hide HL) (hide HE) (hide HG) HI1 HI2 HC1 HC2 (hide HA)
      · exact keeps_e64 W (ne_t hw) (ne_f hw') HW (hide HM) (hide HX) (hide HM2) (hide HX2) (hide HL) (hide HE) (hide HG) HI1 HI2 HC1 HC2 (hide HA)
    · rw [i2 (by omega)] at HM HM2
      rw [j1 (by omega)] at HX HX2
      rcases hw with hw | ⟨hw, hw'⟩
      · exact keeps_f32 W (ne_f hw) HW (hide HM) (hide HX) (hide HM2) (hide HX2) (hide HL) (hide HE) (hide HG) HI1 HI2 HC1 HC2 (hide HB) (hne (by omega))
      · exact keeps_f64 W (ne_t hw) (ne_f hw') HW (hide HM) (hide HX) (hide HM2) (hide HX2) (hide HL) (hide HE) (hide HG) HI1 HI2 HC1 HC2 (hide HB) (hne (by omega))
  · have hk := kk_lt h
    rw [i2 (by omega)] at HM HM2
    rw [j1 (by omega)] at HX HX2
    rcases hw with hw | ⟨hw, hw'⟩
    · exact keeps_g32 W (ne_f hw) HW (hide HM) (hide HX) (hide HM2) (hide HX2) (hide HL) (hide HE) (hide HG) HI1 HI2 HC1 HC2 (hide HB) (hne (by omega))
    · exact keeps_g64 W (ne_t hw) (ne_f hw') HW (hide HM) (hide HX) (hide HM2) (hide HX2) (hide HL) (hide HE) (hide HG) HI1 HI2 HC1 HC2 (hide HB) (hne (by omega))

set_option maxRecDepth 100000 in
theorem orderKeeps_lifted (os : Os) (started : os.Started) (H : Type) (enc : TypeId × Value → H) :
    ReturnsInHanded {} Try.checked os 5 .any (Rows.orderKeepsSpec.pre6 enc Try.prog Try.f5 Rows.orderKeepsRow.domain false) (Rows.orderKeepsSpec.post enc Try.prog Try.f5 false true false false) := by
  refine returnsInHanded_of_change (C := Try.checked) Try.own started (by kernel_rfl) Try.func5
    (ChangeSpec.witness6 (enc := enc) (C := Try.checked) false ⟨#[], #[.int .i64 0, .int .u64 0, .int .u64 0], []⟩ 8 (by kernel_rfl) (by kernel_rfl) (by kernel_rfl) (by kernel_rfl)) ?_
  intro W base args ds gs before hval0 hW hcnd _
  have hval : ∀ (j : Nat) t v, Try.f5.params[j]? = some t → args[j]? = some v → Value.okWide Try.prog W .any base t v := hval0
  have hW' := hW
  obtain ⟨p, q, hA0, hV, rfl, hfz, hnd⟩ := hW
  have hA : DataW.TrodAll enc Try.prog W 0 (fun _ => true) true Try.f5.params.toList args.toList ds p := hA0
  rw [Try.params5] at hA hval
  obtain ⟨v0, v1, v2, d0, d1, d2, p0, p1, p2, rfl, rfl, rfl, h0, h1, h2⟩ := trodAll_three hA
  obtain ⟨rfl, rfl⟩ := trodVars_none hV
  obtain ⟨w, rfl, rfl, rfl, ww⟩ := open_int Try.underlying3 (hval 0 3 v0 rfl rfl) h0
  obtain ⟨x, rfl, rfl, rfl, wx⟩ := open_int Try.underlying22 (hval 1 22 v1 rfl rfl) h1
  obtain ⟨y, rfl, rfl, rfl, wy⟩ := open_int Try.underlying22 (hval 2 22 v2 rfl rfl) h2
  clear hA0 hval0
  simp only [List.append_nil] at hW'
  refine (orderKeeps_any w x y W  (word_of_wf wx).1 (word_of_wf wx).2 (word_of_wf wy).1 (word_of_wf wy).2).mono fun e W' ⟨he, hb⟩ => ?_
  subst he
  exact ⟨_, rfl, ⟨_, _, _, [], [], [], hW', trodAll_mk1 (shut_bool Try.underlying4 _), trodAll_mk3 (shut_int Try.underlying3 ww) (shut_int Try.underlying22 wx) (shut_int Try.underlying22 wy), rfl, hb.frame _, fun h => by cases h⟩⟩

theorem orderKeeps_holds : Rows.OrderKeepsSaid :=
  OpenClaim.holds_of_wide 5 Try.f5 rfl rfl rfl rfl rfl rfl rfl ⟨rfl, rfl, rfl, rfl, rfl⟩ rfl rfl rfl rfl rfl (by kernel_rfl) Try.func5 (by kernel_rfl)
    (of_decide_eq_true (by kernel_rfl)) (by unfold Func.isWrapper; first | (rw [if_pos (by decide +kernel)]; kernel_rfl) | (rw [if_neg (by decide +kernel)]; exact ⟨rfl, rfl⟩))
    (fun os started H enc _ => orderKeeps_lifted os started H enc)

#print axioms orderKeeps_holds
end Go.Proofs.Ytefpknkbfmjajaa
