/- WholeKeeps: what is whole stays what it is, what is made whole is whole or infinite, and the four lie on either side of the number, each of them the one above or the one below. No condition. -/
import Derived.Test.YtepdmpcgkecjiaaG34
import Derived.Test.YtepdmpcgkecjiaaG41
import Derived.Test.YtepdmpcgkecjiaaG42
import Derived.Test.YtepdmpcgkecjiaaG43
namespace Go.Proofs.Ytepdmpcgkecjiaa
open Go.ChangeShapes Go.WideShapes Go.ChangeAt Go.RowKit Go.Joins
open Go.Proofs.Ytepdmpcgkecjiaa.W

theorem wholeKeeps_any (w x : Int) (W : World) (x0 : 0 ≤ x) (x1 : x < 18446744073709551616) :
    Calls Try.prog 4 #[.int .i64 w, .int .u64 x] W fun r W' => r = .returned (.bool true) ∧ Below W.heap.size W W' := by
  obtain ⟨e, f, P, Q, b, h⟩ := wd_ex w
  have HW := hide awake_any
  by_cases hf : f = 0
  · have hw : w ≠ 32 ∧ w ≠ 64 := by rcases h with h | h | h <;> omega
    exact keeps_no W (ne_t hw.1) (ne_t hw.2) HW
  have k := h.known hf
  have hw : w = 32 ∨ w ≠ 32 ∧ w = 64 := by rcases k with h | h <;> omega
  have H1 := fun W => ceil_any k W x0 x1
  have H2 := fun W => floor_any k W x0 x1
  have H3 := fun W => trunc_any k W x0 x1
  have H4 := fun W => near_any k W x0 x1
  obtain ⟨X, S, ho, hp, hm⟩ := open_kd k x
  have HO := hide (fun W => open_any x k.wd W x0 x1 ho)
  have HI := fun W => isw_any k W x0 x1
  have HC := hide (fun W => cut_any x k.wd W x0 x1)
  by_cases h3 : oK P Q x = 3
  · have hB : ∀ way, makeB f P Q b way x = put f P Q false (Q - 1) (P / 2) := fun way => by
      unfold makeB
      rw [if_pos h3]
      rfl
    rw [hB] at H1 H2 H3 H4
    have HN := hide (fun W => nan_any k.wd W)
    rcases hw with hw | ⟨hw, hw'⟩
    · exact keeps_nan32 W (ne_f hw) HW (hide H1) (hide H2) (hide H3) (hide H4) HO (eq_t h3) HN
    · exact keeps_nan64 W (ne_t hw) (ne_f hw') HW (hide H1) (hide H2) (hide H3) (hide H4) HO (eq_t h3) HN
  have hw0 : oK P Q x ≠ 1 → wr (oM f P Q b x) = 0 := fun hc => by
    rw [← hm, hp.mag0 hc]
    exact Nat.zero_mod _
  by_cases h2 : oK P Q x = 2
  · rw [make_stay k _ h3 (fun h => by omega)] at H1 H2 H3 H4
    rw [show isW f P Q b x = false from df (fun h => h.2.1 h2)] at HI
    rcases hw with hw | ⟨hw, hw'⟩
    · exact keeps_i32 W (ne_f hw) HW (hide H1) (hide H2) (hide H3) (hide H4) HO (eq_f h3) (hide HI) (eq_t h2) HC
    · exact keeps_i64 W (ne_t hw) (ne_f hw') HW (hide H1) (hide H2) (hide H3) (hide H4) HO (eq_f h3) (hide HI) (eq_t h2) HC
  by_cases hb : wr (oM f P Q b x) = 0
  · rw [make_stay k _ h3 (fun _ => hb)] at H1 H2 H3 H4
    rw [show isW f P Q b x = true from dt ⟨h3, h2, hb⟩] at HI
    rcases hw with hw | ⟨hw, hw'⟩
    · exact keeps_w32 W (ne_f hw) HW (hide H1) (hide H2) (hide H3) (hide H4) HO (eq_f h3) (hide HI) HC
    · exact keeps_w64 W (ne_t hw) (ne_f hw') HW (hide H1) (hide H2) (hide H3) (hide H4) HO (eq_f h3) (hide HI) HC
  have h1 : oK P Q x = 1 := Decidable.byContradiction fun hc => hb (hw0 hc)
  rw [show isW f P Q b x = false from df (fun h => hb h.2.2)] at HI
  have HI := hide HI
  obtain ⟨c0, c1, l0, l1, t1, f0, f1, hB⟩ := make_lost k h1 hb
  have t0 : (c0 : Int) < top P Q := by omega
  rw [hB] at H1 H2 H3 H4
  have hsx : sc P Q x = if oN P Q x then -(oc P Q x : Int) else (oc P Q x : Int) := rfl
  generalize hn : oN P Q x = n at *
  have hu1 : upN 1 n (oM f P Q b x) = !n := by unfold upN; rw [if_pos rfl, dt hb, Bool.true_and]
  have hu2 : upN 2 n (oM f P Q b x) = n := by unfold upN; rw [if_neg (by omega), if_pos rfl, dt hb, Bool.true_and]
  have hu3 : upN 3 n (oM f P Q b x) = false := by unfold upN; rw [if_neg (by omega), if_neg (by omega), if_neg (by omega)]
  rw [hu1] at H1
  rw [hu2] at H2
  rw [hu3] at H3
  generalize upN 4 n (oM f P Q b x) = u4 at *
  obtain ⟨a0, a1, a2, -, a3, -, -⟩ := fl_parts k n t0
  obtain ⟨b0, b1, b2, -, b3, -, -⟩ := fl_parts k n t1
  have s0 := fl_sc k n t0
  have s1 := fl_sc k n t1
  have I0 := fun W => isw_any (x := fl f P Q n c0) k W a0 a1
  have I1 := fun W => isw_any (x := fl f P Q n c1) k W b0 b1
  rw [fl_isW k n t0 f0] at I0
  rw [fl_isW k n t1 f1] at I1
  have hne : fl f P Q n c0 ≠ fl f P Q n c1 := fun hh => by
    rw [hh] at a2
    omega
  have hlt : ∀ {y z : Int}, oK P Q y ≠ 3 → oK P Q z ≠ 3 → sc P Q y < sc P Q z → (cmpB P Q y z == -1) = true := fun hy hz hl => by
    rw [cmpB_num hy hz, ← cmpS_lt]
    exact dt hl
  cases n
  · have L1 := fun W => lt_any k W a0 a1 x0 x1
    have L2 := fun W => lt_any k W x0 x1 b0 b1
    rw [hlt a3 h3 (by rw [s0, hsx]; simp; omega)] at L1
    rw [hlt h3 b3 (by rw [s1, hsx]; simp; omega)] at L2
    cases u4
    · rcases hw with hw | ⟨hw, hw'⟩
      · exact keeps_f232 W (ne_f hw) HW (hide H1) (hide H2) (hide H3) (hide H4) HO (eq_f h3) HI (eq_f h2) (hide L1) (hide L2) (hide I1) (hide I0) (ne_t hne)
      · exact keeps_f264 W (ne_t hw) (ne_f hw') HW (hide H1) (hide H2) (hide H3) (hide H4) HO (eq_f h3) HI (eq_f h2) (hide L1) (hide L2) (hide I1) (hide I0) (ne_t hne)
    · rcases hw with hw | ⟨hw, hw'⟩
      · exact keeps_f132 W (ne_f hw) HW (hide H1) (hide H2) (hide H3) (hide H4) HO (eq_f h3) HI (eq_f h2) (hide L1) (hide L2) (hide I1) (hide I0)
      · exact keeps_f164 W (ne_t hw) (ne_f hw') HW (hide H1) (hide H2) (hide H3) (hide H4) HO (eq_f h3) HI (eq_f h2) (hide L1) (hide L2) (hide I1) (hide I0)
  · have L1 := fun W => lt_any k W b0 b1 x0 x1
    have L2 := fun W => lt_any k W x0 x1 a0 a1
    rw [hlt b3 h3 (by rw [s1, hsx]; simp; omega)] at L1
    rw [hlt h3 a3 (by rw [s0, hsx]; simp; omega)] at L2
    cases u4
    · rcases hw with hw | ⟨hw, hw'⟩
      · exact keeps_t132 W (ne_f hw) HW (hide H1) (hide H2) (hide H3) (hide H4) HO (eq_f h3) HI (eq_f h2) (hide L1) (hide L2) (hide I0) (hide I1)
      · exact keeps_t164 W (ne_t hw) (ne_f hw') HW (hide H1) (hide H2) (hide H3) (hide H4) HO (eq_f h3) HI (eq_f h2) (hide L1) (hide L2) (hide I0) (hide I1)
    · rcases hw with hw | ⟨hw, hw'⟩
      · exact keeps_t232 W (ne_f hw) HW (hide H1) (hide H2) (hide H3) (hide H4) HO (eq_f h3) HI (eq_f h2) (hide L1) (hide L2) (hide I0) (hide I1) (ne_t (Ne.symm hne))
      · exact keeps_t264 W (ne_t hw) (ne_f hw') HW (hide H1) (hide H2) (hide H3) (hide H4) HO (eq_f h3) HI (eq_f h2) (hide L1) (hide L2) (hide I0) (hide I1) (ne_t (Ne.symm hne))

set_option maxRecDepth 100000 in
theorem wholeKeeps_lifted (os : Os) (started : os.Started) (H : Type) (enc : TypeId × Value → H) :
    ReturnsInHanded {} Try.checked os 4 .any (Rows.wholeKeepsSpec.pre6 enc Try.prog Try.f4 Rows.wholeKeepsRow.domain false) (Rows.wholeKeepsSpec.post enc Try.prog Try.f4 false true false false) := by
  refine returnsInHanded_of_change (C := Try.checked) Try.own started (by kernel_rfl) Try.func4
    (ChangeSpec.witness6 (enc := enc) (C := Try.checked) false ⟨#[], #[.int .i64 0, .int .u64 0], []⟩ 8 (by kernel_rfl) (by kernel_rfl) (by kernel_rfl) (by kernel_rfl)) ?_
  intro W base args ds gs before hval0 hW hcnd _
  have hval : ∀ (j : Nat) t v, Try.f4.params[j]? = some t → args[j]? = some v → Value.okWide Try.prog W .any base t v := hval0
  have hW' := hW
  obtain ⟨p, q, hA0, hV, rfl, hfz, hnd⟩ := hW
  have hA : DataW.TrodAll enc Try.prog W 0 (fun _ => true) true Try.f4.params.toList args.toList ds p := hA0
  rw [Try.params4] at hA hval
  obtain ⟨v0, v1, d0, d1, p0, p1, rfl, rfl, rfl, h0, h1⟩ := trodAll_two hA
  obtain ⟨rfl, rfl⟩ := trodVars_none hV
  obtain ⟨w, rfl, rfl, rfl, ww⟩ := open_int Try.underlying3 (hval 0 3 v0 rfl rfl) h0
  obtain ⟨x, rfl, rfl, rfl, wx⟩ := open_int Try.underlying22 (hval 1 22 v1 rfl rfl) h1
  clear hA0 hval0
  simp only [List.append_nil] at hW'
  refine (wholeKeeps_any w x W  (word_of_wf wx).1 (word_of_wf wx).2).mono fun e W' ⟨he, hb⟩ => ?_
  subst he
  exact ⟨_, rfl, ⟨_, _, _, [], [], [], hW', trodAll_mk1 (shut_bool Try.underlying4 _), trodAll_mk2 (shut_int Try.underlying3 ww) (shut_int Try.underlying22 wx), rfl, hb.frame _, fun h => by cases h⟩⟩

theorem wholeKeeps_holds : Rows.WholeKeepsSaid :=
  OpenClaim.holds_of_wide 4 Try.f4 rfl rfl rfl rfl rfl rfl rfl ⟨rfl, rfl, rfl, rfl, rfl⟩ rfl rfl rfl rfl rfl (by kernel_rfl) Try.func4 (by kernel_rfl)
    (of_decide_eq_true (by kernel_rfl)) (by unfold Func.isWrapper; first | (rw [if_pos (by decide +kernel)]; kernel_rfl) | (rw [if_neg (by decide +kernel)]; exact ⟨rfl, rfl⟩))
    (fun os started H enc _ => wholeKeeps_lifted os started H enc)

#print axioms wholeKeeps_holds
end Go.Proofs.Ytepdmpcgkecjiaa
