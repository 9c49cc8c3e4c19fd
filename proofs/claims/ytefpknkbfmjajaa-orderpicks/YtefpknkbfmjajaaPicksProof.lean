/- For every int w and all uint64 a and b the law OrderPicks answers true, and w, a and b read as before: the lesser and the greater of any two floats are the document's, and ranks order them; no condition. -/
import Derived.Test.YtefpknkbfmjajaaG20
import Derived.Test.YtefpknkbfmjajaaG36
import Derived.Test.YtefpknkbfmjajaaG37
import Derived.Test.YtefpknkbfmjajaaG38
namespace Go.Proofs.Ytefpknkbfmjajaa
open Go.ChangeShapes Go.WideShapes Go.ChangeAt Go.RowKit Go.Joins
open Go.Proofs.Ytefpknkbfmjajaa.W

theorem orderPicks_any (w x y : Int) (W : World) (x0 : 0 ≤ x) (x1 : x < 18446744073709551616) (y0 : 0 ≤ y) (y1 : y < 18446744073709551616) :
    Calls Try.prog 4 #[.int .i64 w, .int .u64 x, .int .u64 y] W fun r W' => r = .returned (.bool true) ∧ Below W.heap.size W W' := by
  obtain ⟨e, f, P, Q, b, h⟩ := wd_ex w
  have HK := fun W => refKnown_any h W
  have HW := hide awake_any
  by_cases hf : f = 0
  · rw [ne_f hf] at HK
    exact picks_no W HW (hide (min_no h hf x y)) (hide (max_no h hf x y)) (hide (rank_no h hf x)) (hide (rank_no h hf y)) (hide HK)
  have k := h.known hf
  rw [ne_t hf] at HK
  have HK := hide HK
  have HM := hide (fun W => min_any k W x0 x1 y0 y1)
  have HX := hide (fun W => max_any k W x0 x1 y0 y1)
  have HP1 := hide (fun W => refPick_any k (-1) true W x0 x1 y0 y1)
  have HP2 := hide (fun W => refPick_any k 1 false W x0 x1 y0 y1)
  obtain ⟨X1, S1, o1, -, -⟩ := open_kd k x
  obtain ⟨X2, S2, o2, -, -⟩ := open_kd k y
  have HO1 := hide (fun W => refOpen_any x k W x0 x1 o1)
  have HO2 := hide (fun W => refOpen_any y k W y0 y1 o2)
  have H6 := fun W => refCmp8_any k W x0 x1 y0 y1
  by_cases hx : oK P Q x = 3
  · by_cases hy : oK P Q y = 3
    · exact picks_nn W HW HM HX (hide (fun W => rank_nan k W x0 x1 hx)) (hide (fun W => rank_nan k W y0 y1 hy)) HK HP1 HP2 HO1 HO2 (hide H6) (ne_f hx) (ne_f hy)
    · exact picks_na W HW HM HX (hide (fun W => rank_nan k W x0 x1 hx)) (hide (fun W => rank_any k W y0 y1 hy)) HK HP1 HP2 HO1 HO2 (hide H6) (ne_f hx) (ne_t hy)
  have HR1 := hide (fun W => rank_any k W x0 x1 hx)
  by_cases hy : oK P Q y = 3
  · exact picks_nb W HW HM HX HR1 (hide (fun W => rank_nan k W y0 y1 hy)) HK HP1 HP2 HO1 HO2 (hide H6) (ne_t hx) (ne_f hy)
  have HR2 := hide (fun W => rank_any k W y0 y1 hy)
  have ka := kind_oc k x
  have tp := top_pos k
  have hneg : (oN P Q x = false ∧ ¬ sc P Q x < 0) ∨ (oN P Q x = true ∧ sc P Q x < 0 ∧ oK P Q x ≠ 0) ∨ (oN P Q x = true ∧ ¬ sc P Q x < 0 ∧ oK P Q x = 0) := by
    unfold sc
    by_cases hn : oN P Q x = true
    · rw [if_pos hn]
      by_cases hz : oK P Q x = 0
      · exact Or.inr (Or.inr ⟨hn, by omega, hz⟩)
      · exact Or.inr (Or.inl ⟨hn, by omega, hz⟩)
    · rw [if_neg hn]
      exact Or.inl ⟨by revert hn; cases oN P Q x <;> simp, by omega⟩
  rcases cmpB_ways P Q x y with ⟨-, -, h3⟩ | ⟨-, -, ⟨e1, -, h⟩ | ⟨e1, -, h⟩ | ⟨e1, -, h⟩⟩
  · omega
  all_goals rw [e1] at H6
  · rcases hneg with ⟨q1, q2⟩ | ⟨q1, q2, q3⟩ | ⟨q1, q2, q3⟩ <;> rw [q1] at HO1
    · exact picks_lp W HW HM HX HR1 HR2 HK HP1 HP2 HO1 HO2 (hide H6) (ne_t hx) (ne_t hy) h (eq_f (by omega)) (decide_eq_false q2)
    · exact picks_lm W HW HM HX HR1 HR2 HK HP1 HP2 HO1 HO2 (hide H6) (ne_t hx) (ne_t hy) h (eq_f (by omega)) q2 (ne_t q3)
    · exact picks_lz W HW HM HX HR1 HR2 HK HP1 HP2 HO1 HO2 (hide H6) (ne_t hx) (ne_t hy) h (eq_f (by omega)) (decide_eq_false q2) (ne_f q3)
  · rcases hneg with ⟨q1, q2⟩ | ⟨q1, q2, q3⟩ | ⟨q1, q2, q3⟩ <;> rw [q1] at HO1
    · exact picks_ep W HW HM HX HR1 HR2 HK HP1 HP2 HO1 HO2 (hide H6) (ne_t hx) (ne_t hy) (decide_eq_false (by omega)) (eq_t h) (decide_eq_false q2)
    · exact picks_em W HW HM HX HR1 HR2 HK HP1 HP2 HO1 HO2 (hide H6) (ne_t hx) (ne_t hy) (decide_eq_false (by omega)) (eq_t h) q2 (ne_t q3)
    · exact picks_ez W HW HM HX HR1 HR2 HK HP1 HP2 HO1 HO2 (hide H6) (ne_t hx) (ne_t hy) (decide_eq_false (by omega)) (eq_t h) (decide_eq_false q2) (ne_f q3)
  · rcases hneg with ⟨q1, q2⟩ | ⟨q1, q2, q3⟩ | ⟨q1, q2, q3⟩ <;> rw [q1] at HO1
    · exact picks_gp W HW HM HX HR1 HR2 HK HP1 HP2 HO1 HO2 (hide H6) (ne_t hx) (ne_t hy) (decide_eq_false (by omega)) (eq_f (by omega)) (decide_eq_false q2)
    · exact picks_gm W HW HM HX HR1 HR2 HK HP1 HP2 HO1 HO2 (hide H6) (ne_t hx) (ne_t hy) (decide_eq_false (by omega)) (eq_f (by omega)) q2 (ne_t q3)
    · exact picks_gz W HW HM HX HR1 HR2 HK HP1 HP2 HO1 HO2 (hide H6) (ne_t hx) (ne_t hy) (decide_eq_false (by omega)) (eq_f (by omega)) (decide_eq_false q2) (ne_f q3)

set_option maxRecDepth 100000 in
theorem orderPicks_lifted (os : Os) (started : os.Started) (H : Type) (enc : TypeId × Value → H) :
    ReturnsInHanded {} Try.checked os 4 .any (Rows.orderPicksSpec.pre6 enc Try.prog Try.f4 Rows.orderPicksRow.domain false) (Rows.orderPicksSpec.post enc Try.prog Try.f4 false true false false) := by
  refine returnsInHanded_of_change (C := Try.checked) Try.own started (by kernel_rfl) Try.func4
    (ChangeSpec.witness6 (enc := enc) (C := Try.checked) false ⟨#[], #[.int .i64 0, .int .u64 0, .int .u64 0], []⟩ 8 (by kernel_rfl) (by kernel_rfl) (by kernel_rfl) (by kernel_rfl)) ?_
  intro W base args ds gs before hval0 hW hcnd _
  have hval : ∀ (j : Nat) t v, Try.f4.params[j]? = some t → args[j]? = some v → Value.okWide Try.prog W .any base t v := hval0
  have hW' := hW
  obtain ⟨p, q, hA0, hV, rfl, hfz, hnd⟩ := hW
  have hA : DataW.TrodAll enc Try.prog W 0 (fun _ => true) true Try.f4.params.toList args.toList ds p := hA0
  rw [Try.params4] at hA hval
  obtain ⟨v0, v1, v2, d0, d1, d2, p0, p1, p2, rfl, rfl, rfl, h0, h1, h2⟩ := trodAll_three hA
  obtain ⟨rfl, rfl⟩ := trodVars_none hV
  obtain ⟨w, rfl, rfl, rfl, ww⟩ := open_int Try.underlying3 (hval 0 3 v0 rfl rfl) h0
  obtain ⟨x, rfl, rfl, rfl, wx⟩ := open_int Try.underlying22 (hval 1 22 v1 rfl rfl) h1
  obtain ⟨y, rfl, rfl, rfl, wy⟩ := open_int Try.underlying22 (hval 2 22 v2 rfl rfl) h2
  clear hA0 hval0
  simp only [List.append_nil] at hW'
  refine (orderPicks_any w x y W  (word_of_wf wx).1 (word_of_wf wx).2 (word_of_wf wy).1 (word_of_wf wy).2).mono fun e W' ⟨he, hb⟩ => ?_
  subst he
  exact ⟨_, rfl, ⟨_, _, _, [], [], [], hW', trodAll_mk1 (shut_bool Try.underlying4 _), trodAll_mk3 (shut_int Try.underlying3 ww) (shut_int Try.underlying22 wx) (shut_int Try.underlying22 wy), rfl, hb.frame _, fun h => by cases h⟩⟩

theorem orderPicks_holds : Rows.OrderPicksSaid :=
  OpenClaim.holds_of_wide 4 Try.f4 rfl rfl rfl rfl rfl rfl rfl ⟨rfl, rfl, rfl, rfl, rfl⟩ rfl rfl rfl rfl rfl (by kernel_rfl) Try.func4 (by kernel_rfl)
    (of_decide_eq_true (by kernel_rfl)) (by unfold Func.isWrapper; first | (rw [if_pos (by decide +kernel)]; kernel_rfl) | (rw [if_neg (by decide +kernel)]; exact ⟨rfl, rfl⟩))
    (fun os started H enc _ => orderPicks_lifted os started H enc)

#print axioms orderPicks_holds
end Go.Proofs.Ytefpknkbfmjajaa
