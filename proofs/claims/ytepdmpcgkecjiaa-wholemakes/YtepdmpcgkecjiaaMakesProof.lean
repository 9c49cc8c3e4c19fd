/- WholeMakes: any float of either width is made whole as the document says, each of the four ways, and whether it is whole is told; of any other width the answers are 0 and false. No condition. -/
import Derived.Test.YtepdmpcgkecjiaaG34
import Derived.Test.YtepdmpcgkecjiaaG41
namespace Go.Proofs.Ytepdmpcgkecjiaa
open Go.ChangeShapes Go.WideShapes Go.ChangeAt Go.RowKit Go.Joins
open Go.Proofs.Ytepdmpcgkecjiaa.W

theorem wholeMakes_any (w x : Int) (W : World) (x0 : 0 ≤ x) (x1 : x < 18446744073709551616) :
    Calls Try.prog 3 #[.int .i64 w, .int .u64 x] W fun r W' => r = .returned (.bool true) ∧ Below W.heap.size W W' := by
  obtain ⟨e, f, P, Q, b, h⟩ := wd_ex w
  have HW := hide awake_any
  have HK := fun W => refKnown_any h W
  by_cases hf : f = 0
  · rw [ne_f hf] at HK
    exact makes_no W HW (hide (fun W => ceil_no h hf W x0 x1)) (hide (fun W => floor_no h hf W x0 x1)) (hide (fun W => trunc_no h hf W x0 x1)) (hide (fun W => near_no h hf W x0 x1)) (hide HK) (hide (fun W => isw_no h hf W x0 x1))
  have k := h.known hf
  rw [ne_t hf] at HK
  have HK := hide HK
  have H1 := hide (fun W => ceil_any k W x0 x1)
  have H2 := hide (fun W => floor_any k W x0 x1)
  have H3 := hide (fun W => trunc_any k W x0 x1)
  have H4 := hide (fun W => near_any k W x0 x1)
  have M1 := hide (fun W => refMake_1 k W x0 x1)
  have M2 := hide (fun W => refMake_2 k W x0 x1)
  have M3 := hide (fun W => refMake_3 k W x0 x1)
  have M4 := hide (fun W => refMake_4 k W x0 x1)
  obtain ⟨X, S, ho, hp, hm⟩ := open_kd k x
  have HO := fun W => refOpen_any x k W x0 x1 ho
  have HI := fun W => isw_any k W x0 x1
  have hw0 : oK P Q x ≠ 1 → wr (oM f P Q b x) = 0 := fun hc => by
    rw [← hm, hp.mag0 hc]
    exact Nat.zero_mod _
  rcases kind_oc k x with ⟨h1, -, -⟩ | ⟨h1, -, -⟩ | ⟨h1, -, -, -⟩ | ⟨h1, -, -⟩
  · rw [show isW f P Q b x = false from df (fun h => h.1 h1)] at HI
    exact makes_n W HW H1 H2 H3 H4 HK M1 M2 M3 M4 (hide HO) (eq_f (by omega)) (df (by omega)) (hide HI)
  · rw [show isW f P Q b x = false from df (fun h => h.2.1 h1)] at HI
    exact makes_n W HW H1 H2 H3 H4 HK M1 M2 M3 M4 (hide HO) (eq_f (by omega)) (df (by omega)) (hide HI)
  · rw [h1] at hp HO
    have HD := fun W => refDown_any k (oN P Q x) hp W
    have e : isW f P Q b x = !decide (wr (mag X S) ≠ 0) := by
      unfold isW
      rw [hm]
      by_cases hc : wr (oM f P Q b x) = 0
      · rw [dt ⟨by omega, by omega, hc⟩, df (fun h => h hc)]; rfl
      · rw [df (fun h => hc h.2.2), dt hc]; rfl
    rw [e] at HI
    exact makes_f W HW H1 H2 H3 H4 HK M1 M2 M3 M4 _ (hide HO) (eq_t rfl) (by omega) (hide HD) (hide HI)
  · rw [show isW f P Q b x = true from dt ⟨by omega, by omega, hw0 (by omega)⟩] at HI
    exact makes_z W HW H1 H2 H3 H4 HK M1 M2 M3 M4 (hide HO) (eq_f (by omega)) (by omega) (hide HI)

set_option maxRecDepth 100000 in
theorem wholeMakes_lifted (os : Os) (started : os.Started) (H : Type) (enc : TypeId × Value → H) :
    ReturnsInHanded {} Try.checked os 3 .any (Rows.wholeMakesSpec.pre6 enc Try.prog Try.f3 Rows.wholeMakesRow.domain false) (Rows.wholeMakesSpec.post enc Try.prog Try.f3 false true false false) := by
  refine returnsInHanded_of_change (C := Try.checked) Try.own started (by kernel_rfl) Try.func3
    (ChangeSpec.witness6 (enc := enc) (C := Try.checked) false ⟨#[], #[.int .i64 0, .int .u64 0], []⟩ 8 (by kernel_rfl) (by kernel_rfl) (by kernel_rfl) (by kernel_rfl)) ?_
  intro W base args ds gs before hval0 hW hcnd _
  have hval : ∀ (j : Nat) t v, Try.f3.params[j]? = some t → args[j]? = some v → Value.okWide Try.prog W .any base t v := hval0
  have hW' := hW
  obtain ⟨p, q, hA0, hV, rfl, hfz, hnd⟩ := hW
  have hA : DataW.TrodAll enc Try.prog W 0 (fun _ => true) true Try.f3.params.toList args.toList ds p := hA0
  rw [Try.params3] at hA hval
  obtain ⟨v0, v1, d0, d1, p0, p1, rfl, rfl, rfl, h0, h1⟩ := trodAll_two hA
  obtain ⟨rfl, rfl⟩ := trodVars_none hV
  obtain ⟨w, rfl, rfl, rfl, ww⟩ := open_int Try.underlying3 (hval 0 3 v0 rfl rfl) h0
  obtain ⟨x, rfl, rfl, rfl, wx⟩ := open_int Try.underlying22 (hval 1 22 v1 rfl rfl) h1
  clear hA0 hval0
  simp only [List.append_nil] at hW'
  refine (wholeMakes_any w x W  (word_of_wf wx).1 (word_of_wf wx).2).mono fun e W' ⟨he, hb⟩ => ?_
  subst he
  exact ⟨_, rfl, ⟨_, _, _, [], [], [], hW', trodAll_mk1 (shut_bool Try.underlying4 _), trodAll_mk2 (shut_int Try.underlying3 ww) (shut_int Try.underlying22 wx), rfl, hb.frame _, fun h => by cases h⟩⟩

theorem wholeMakes_holds : Rows.WholeMakesSaid :=
  OpenClaim.holds_of_wide 3 Try.f3 rfl rfl rfl rfl rfl rfl rfl ⟨rfl, rfl, rfl, rfl, rfl⟩ rfl rfl rfl rfl rfl (by kernel_rfl) Try.func3 (by kernel_rfl)
    (of_decide_eq_true (by kernel_rfl)) (by unfold Func.isWrapper; first | (rw [if_pos (by decide +kernel)]; kernel_rfl) | (rw [if_neg (by decide +kernel)]; exact ⟨rfl, rfl⟩))
    (fun os started H enc _ => wholeMakes_lifted os started H enc)

#print axioms wholeMakes_holds
end Go.Proofs.Ytepdmpcgkecjiaa
