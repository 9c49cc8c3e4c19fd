/- For every Way x and every uint64 a the law ChopTraps answers true, and the arguments read as before: any float of either width is made the document's whole number of either width, signed or not, or traps, or stops at an end. No condition. -/
import Derived.Test.YtmbkpmcmhmldgaaT14
import Derived.Test.YtmbkpmcmhmldgaaT19
import Derived.Test.YtmbkpmcmhmldgaaT20
import Derived.Test.YtmbkpmcmhmldgaaT26
import Derived.Test.YtmbkpmcmhmldgaaT30
import Derived.Lib.SmallJoins
namespace Go.Proofs.Ytmbkpmcmhmldgaa
open Go.ChangeShapes Go.WideShapes Go.ChangeAt Go.WideElems Go.RowKit Go.Joins
open Go.Proofs.Ytmbkpmcmhmldgaa.W

/-- The program's answer beside the reference's. -/
theorem ch_ways {H K : Int} {s n : Bool} {z : Nat} : chO H s n K z = 1 ∧ chR H s n K z = 0 ∧ chT H s n K z = 4 ∧ chV H s n K z = 0 ∨ chO H s n K z = 2 ∧ chR H s n K z = 0 ∧ chT H s n K z = 3 ∧ chV H s n K z = lowE H s ∨
    chO H s n K z = 3 ∧ chR H s n K z = 0 ∧ chT H s n K z = 3 ∧ chV H s n K z = highE H s ∨ chO H s n K z = 0 ∧ chT H s n K z = 0 ∧ chV H s n K z = chR H s n K z := by
  by_cases h3 : K = 3
  · refine Or.inl ?_
    have e : chO H s n K z = 1 := by unfold chO; rw [if_pos h3]
    refine ⟨e, ?_, ?_, ?_⟩
    · unfold chR; rw [e]; rfl
    · unfold chT; rw [if_pos h3]
    · unfold chV; rw [if_pos h3]
  · by_cases hg : K = 2 ∨ ¬ (z : Int) ≤ endE H s n
    · obtain ⟨q1, q2⟩ := chO_gt h3 hg
      have t1 : chT H s n K z = 3 := by
        unfold chT
        rw [if_neg h3]
        by_cases h2 : K = 2
        · rw [if_pos h2]
        · rw [if_neg h2, if_neg (hg.resolve_left h2)]
      have t2 : chV H s n K z = endE H s n := by
        unfold chV
        rw [if_neg h3]
        by_cases h2 : K = 2
        · rw [if_pos h2]
        · rw [if_neg h2, if_neg (hg.resolve_left h2)]
      cases n
      · exact Or.inr (Or.inr (Or.inl ⟨q1, q2, t1, t2⟩))
      · exact Or.inr (Or.inl ⟨q1, q2, t1, t2⟩)
    · have h2 : K ≠ 2 := fun g => hg (Or.inl g)
      have hz : (z : Int) ≤ endE H s n := Decidable.byContradiction fun g => hg (Or.inr g)
      obtain ⟨q1, q2⟩ := chO_le h3 h2 hz
      refine Or.inr (Or.inr (Or.inr ⟨q1, ?_, ?_⟩))
      · unfold chT; rw [if_neg h3, if_neg h2, if_pos hz]
      · rw [q2]; unfold chV; rw [if_neg h3, if_neg h2, if_pos hz]
theorem chopTraps_any (W : World) (w k : Int) (s : Bool) (x : Int) (x0 : 0 ≤ x) (x1 : x < 18446744073709551616) :
    Calls Try.prog 3 #[.agg #[.int .i64 w, .int .i64 k, .bool s], .int .u64 x] W fun r W' => r = .returned (.bool true) ∧ Below W.heap.size W W' := by
  obtain ⟨e, f, P, Q, b, h⟩ := wd_ex w
  obtain ⟨e', f', P', Q', b', h'⟩ := wd_ex k
  have HW := hide (fun W => refKnown_any h W)
  have HK := hide (fun W => refKnown_any h' W)
  by_cases hk : f' = 0
  · have H1 := trap_none h h' (Or.inr hk) s x0 x1
    have H2 := sat_none h h' (Or.inr hk) s x0 x1
    have H3 := ends_no h' hk s
    rw [ne_f hk] at HK
    by_cases hw : f = 0
    · rw [ne_f hw] at HW
      exact traps_nf W awake_any H1 H2 H3 HK HW
    · rw [ne_t hw] at HW
      exact traps_nt W awake_any H1 H2 H3 HK HW
  · have kk := h'.known hk
    rw [ne_t hk] at HK
    have H3 := ends_any kk s
    have HL := low_any kk s
    have HH := high_any kk s
    by_cases hw : f = 0
    · have H1 := trap_none h h' (Or.inl hw) s x0 x1
      have H2 := sat_none h h' (Or.inl hw) s x0 x1
      rw [ne_f hw] at HW
      cases s
      · rw [show lowE (P' * Q') false = 0 from rfl] at H3 HL
        exact traps_wf W awake_any H1 H2 H3 HK HL HH HW
      · exact traps_wt W awake_any H1 H2 H3 HK HL HH HW
    · have kw := h.known hw
      rw [ne_t hw] at HW
      have H1 := trap_any kw kk s x0 x1
      have H2 := sat_any kw kk s x0 x1
      have HC := rchop_any kw kk s x0 x1
      unfold tvN trN vaN at H1
      unfold vaN at H2
      rcases ch_ways (H := P' * Q') (K := oK P Q x) (s := s) (n := oN P Q x) (z := wq (oM f P Q b x)) with ⟨q1, q2, q3, q4⟩ | ⟨q1, q2, q3, q4⟩ | ⟨q1, q2, q3, q4⟩ | ⟨q1, q3, q4⟩
      · rw [q1, q2] at HC
        rw [q3, if_neg (by decide)] at H1
        rw [q4] at H2
        cases s
        · rw [show lowE (P' * Q') false = 0 from rfl] at H3 HL
          exact traps_f1 W awake_any H1 H2 H3 HK HL HH HW HC
        · exact traps_t1 W awake_any H1 H2 H3 HK HL HH HW HC
      · rw [q1, q2] at HC
        rw [q3, if_neg (by decide)] at H1
        rw [q4] at H2
        cases s
        · rw [show lowE (P' * Q') false = 0 from rfl] at H2 H3 HL
          exact traps_f2 W awake_any H1 H2 H3 HK HL HH HW HC
        · exact traps_t2 W awake_any H1 H2 H3 HK HL HH HW HC
      · rw [q1, q2] at HC
        rw [q3, if_neg (by decide)] at H1
        rw [q4] at H2
        cases s
        · rw [show lowE (P' * Q') false = 0 from rfl] at H3 HL
          exact traps_f3 W awake_any H1 H2 H3 HK HL HH HW HC
        · exact traps_t3 W awake_any H1 H2 H3 HK HL HH HW HC
      · rw [q1] at HC
        rw [q3, if_pos rfl, q4] at H1
        rw [q4] at H2
        cases s
        · rw [show lowE (P' * Q') false = 0 from rfl] at H3 HL
          exact traps_f0 W awake_any H1 H2 H3 HK HL HH HW HC
        · exact traps_t0 W awake_any H1 H2 H3 HK HL HH HW HC
theorem cWay : Try.prog.cellsOf 23 = 3 := by kernel_rfl
set_option maxRecDepth 100000 in
/-- A Way that came in, and how it reads in any later memory. -/
theorem open_way {H : Type} {enc : TypeId × Value → H} {W : World} {base : Nat} {v : Value} {d : DataW H} {p : List MemPlace} {bs : Nat} {sp : Nat → Bool} {hd : Bool}
    (hv : Value.okWide Try.prog W .any base 23 v) (h : DataW.Trod enc Try.prog W bs sp hd 23 v d p) :
    ∃ (w k : Int) (s : Bool), v = .agg #[.int .i64 w, .int .i64 k, .bool s] ∧ p = [] ∧ ∀ (W' : World) (bs' : Nat) (sp' : Nat → Bool) (hd' : Bool), DataW.Trod enc Try.prog W' bs' sp' hd' 23 v d [] := by
  obtain ⟨c0, c1, c2, y0, y1, y2, m, rfl, rfl, rfl, hy0, hy1, hy2⟩ := open_agg3 Try.underlying23 (by kernel_rfl) cWay hv h
  obtain ⟨w, e0, rfl, ww⟩ := DataW.trod_int Try.underlying3 hy0
  obtain ⟨k, e1, rfl, wk⟩ := DataW.trod_int Try.underlying3 hy1
  obtain ⟨s, e2, rfl⟩ := DataW.trod_bool Try.underlying4 hy2
  simp at e0 e1 e2
  subst e0 e1 e2
  exact ⟨w, k, s, rfl, rfl, fun W' bs' sp' hd' =>
    shut_agg3 (y0 := (.lit (.int .i64 w), [])) (y1 := (.lit (.int .i64 k), [])) (y2 := (.lit (.bool s), [])) Try.underlying23 (by kernel_rfl) cWay ⟨1, by simp [DataW.trod, Try.underlying3, ww]⟩ ⟨1, by simp [DataW.trod, Try.underlying3, wk]⟩ ⟨1, by simp [DataW.trod, Try.underlying4]⟩⟩

set_option maxRecDepth 100000 in
theorem chopTraps_lifted (os : Os) (started : os.Started) (H : Type) (enc : TypeId × Value → H) :
    ReturnsInHanded {} Try.checked os 3 .any (Rows.chopTrapsSpec.pre6 enc Try.prog Try.f3 Rows.chopTrapsRow.domain false) (Rows.chopTrapsSpec.post enc Try.prog Try.f3 false true false false) := by
  refine returnsInHanded_of_change (C := Try.checked) Try.own started (by kernel_rfl) Try.func3
    (ChangeSpec.witness6 (enc := enc) (C := Try.checked) false ⟨#[], #[.agg #[.int .i64 0, .int .i64 0, .bool false], .int .u64 0], []⟩ 8 (by kernel_rfl) (by kernel_rfl) (by kernel_rfl) (by kernel_rfl)) ?_
  intro W base args ds gs before hval0 hW hcnd _
  have hval : ∀ (j : Nat) t v, Try.f3.params[j]? = some t → args[j]? = some v → Value.okWide Try.prog W .any base t v := hval0
  have hW' := hW
  obtain ⟨p, q, hA0, hV, rfl, hfz, hnd⟩ := hW
  have hA : DataW.TrodAll enc Try.prog W 0 (fun _ => true) true Try.f3.params.toList args.toList ds p := hA0
  rw [Try.params3] at hA hval
  obtain ⟨v0, v1, d0, d1, p0, p1, rfl, rfl, rfl, h0, h1⟩ := trodAll_two hA
  obtain ⟨rfl, rfl⟩ := trodVars_none hV
  obtain ⟨w, k, s, rfl, rfl, rd⟩ := open_way (hval 0 23 v0 rfl rfl) h0
  obtain ⟨x, rfl, rfl, rfl, wx⟩ := open_int Try.underlying24 (hval 1 24 v1 rfl rfl) h1
  clear hA0 hval0
  simp only [List.append_nil] at hW'
  refine (chopTraps_any W w k s x (word_of_wf wx).1 (word_of_wf wx).2).mono fun e W' ⟨he, hb⟩ => ?_
  subst he
  exact ⟨_, rfl, ⟨_, _, _, [], [], [], hW', trodAll_mk1 (shut_bool Try.underlying4 _), trodAll_mk2 (rd _ _ _ _) (shut_int Try.underlying24 wx), rfl, hb.frame _, fun h => by cases h⟩⟩

theorem chopTraps_holds : Rows.ChopTrapsSaid :=
  OpenClaim.holds_of_wide 3 Try.f3 rfl rfl rfl rfl rfl rfl rfl ⟨rfl, rfl, rfl, rfl, rfl⟩ rfl rfl rfl rfl rfl (by kernel_rfl) Try.func3 (by kernel_rfl)
    (of_decide_eq_true (by kernel_rfl)) (by unfold Func.isWrapper; first | (rw [if_pos (by decide +kernel)]; kernel_rfl) | (rw [if_neg (by decide +kernel)]; exact ⟨rfl, rfl⟩))
    (fun os started H enc _ => chopTraps_lifted os started H enc)

#print axioms chopTraps_holds
end Go.Proofs.Ytmbkpmcmhmldgaa
