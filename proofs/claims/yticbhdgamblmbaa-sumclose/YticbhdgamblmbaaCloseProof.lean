/- For every int w and all words a and b the law SumClose answers true, and w, a and b read as before: of two floats without a sign of which neither is more than twice the other the difference is exact; no condition. -/
import Derived.Test.YticbhdgamblmbaaG30
import Derived.Test.YticbhdgamblmbaaG32
import Derived.Test.YticbhdgamblmbaaG36
namespace Go.Proofs.Yticbhdgamblmbaa
open Go.ChangeShapes Go.WideShapes Go.ChangeAt Go.RowKit Go.Joins
open Go.Proofs.Yticbhdgamblmbaa.W

theorem sumClose_any (w x y : Int) (W : World) (x0 : 0 ≤ x) (x1 : x < 18446744073709551616) (y0 : 0 ≤ y) (y1 : y < 18446744073709551616) :
    Calls Try.prog 7 #[.int .i64 w, .int .u64 x, .int .u64 y] W fun r W' => r = .returned (.bool true) ∧ Below W.heap.size W W' := by
  obtain ⟨e, f, P, Q, b, h⟩ := wd_ex w
  have HK := fun W => refKnown_any h W
  have HW := hide awake_any
  by_cases hf : f = 0
  · rw [ne_f hf] at HK
    exact sclose_no W HW (hide HK)
  have k := h.known hf
  rw [ne_t hf] at HK
  have HK := hide HK
  obtain ⟨X1, S1, o1, -, -⟩ := open_kd k x
  obtain ⟨X2, S2, o2, -, -⟩ := open_kd k y
  have HO1 := hide (fun W => refOpen_any x k W x0 x1 o1)
  have HO2 := hide (fun W => refOpen_any y k W y0 y1 o2)
  by_cases k1 : oK P Q x ≠ 1
  · exact sclose_k1 W HW HK HO1 HO2 (ne_t k1)
  have k1 := Decidable.not_not.1 k1
  rw [k1] at HO1
  by_cases k2 : oK P Q y ≠ 1
  · exact sclose_k2 W HW HK HO1 HO2 (ne_t k2)
  have k2 := Decidable.not_not.1 k2
  rw [k2] at HO2
  by_cases n1 : oN P Q x = true
  · rw [n1] at HO1
    exact sclose_n1 W HW HK HO1 HO2
  have n1 : oN P Q x = false := by simpa using n1
  rw [n1] at HO1
  by_cases n2 : oN P Q y = true
  · rw [n2] at HO2
    exact sclose_n2 W HW HK HO1 HO2
  have n2 : oN P Q y = false := by simpa using n2
  rw [n2] at HO2
  have bx := add_bits (b := b) k x x
  have by' := add_bits (b := b) k y y
  have HA1 := hide (fun W => sumAdd_any k W x0 x1 x0 x1)
  have HC1 := hide (fun W => refCmpS_any (y := y) k W bx.1 bx.2 y0 y1)
  by_cases hc : cmpB P Q (addB f P Q b x x) y < 0
  · exact sclose_l1 W HW HK HO1 HO2 HA1 HC1 hc
  have HA2 := hide (fun W => sumAdd_any k W y0 y1 y0 y1)
  have HC2 := hide (fun W => refCmpS_any (y := x) k W by'.1 by'.2 x0 x1)
  by_cases hd : cmpB P Q (addB f P Q b y y) x < 0
  · exact sclose_l2 W HW HK HO1 HO2 HA1 HC1 hc HA2 HC2 hd
  obtain ⟨d0, d1, hs⟩ := close_add k k1 k2 n1 n2 (twice_ge k k1 k2 n1 n2 hc) (twice_ge k k2 k1 n2 n1 hd)
  have HA3 := hide (fun W => sumAdd_any k W d0 d1 y0 y1)
  rw [hs] at HA3
  exact sclose_ok W HW HK HO1 HO2 HA1 HC1 hc HA2 HC2 hd (hide (fun W => sumSub_any k W x0 x1 y0 y1)) HA3 (hide (fun W => refCut_any x k W x0 x1))

set_option maxRecDepth 100000 in
theorem sumClose_lifted (os : Os) (started : os.Started) (H : Type) (enc : TypeId × Value → H) :
    ReturnsInHanded {} Try.checked os 7 .any (Rows.sumCloseSpec.pre6 enc Try.prog Try.f7 Rows.sumCloseRow.domain false) (Rows.sumCloseSpec.post enc Try.prog Try.f7 false true false false) := by
  refine returnsInHanded_of_change (C := Try.checked) Try.own started (by kernel_rfl) Try.func7
    (ChangeSpec.witness6 (enc := enc) (C := Try.checked) false ⟨#[], #[.int .i64 0, .int .u64 0, .int .u64 0], []⟩ 8 (by kernel_rfl) (by kernel_rfl) (by kernel_rfl) (by kernel_rfl)) ?_
  intro W base args ds gs before hval0 hW hcnd _
  have hval : ∀ (j : Nat) t v, Try.f7.params[j]? = some t → args[j]? = some v → Value.okWide Try.prog W .any base t v := hval0
  have hW' := hW
  obtain ⟨p, q, hA0, hV, rfl, hfz, hnd⟩ := hW
  have hA : DataW.TrodAll enc Try.prog W 0 (fun _ => true) true Try.f7.params.toList args.toList ds p := hA0
  rw [Try.params7] at hA hval
  obtain ⟨v0, v1, v2, d0, d1, d2, p0, p1, p2, rfl, rfl, rfl, h0, h1, h2⟩ := trodAll_three hA
  obtain ⟨rfl, rfl⟩ := trodVars_none hV
  obtain ⟨w, rfl, rfl, rfl, ww⟩ := open_int Try.underlying3 (hval 0 3 v0 rfl rfl) h0
  obtain ⟨x, rfl, rfl, rfl, wx⟩ := open_int Try.underlying22 (hval 1 22 v1 rfl rfl) h1
  obtain ⟨y, rfl, rfl, rfl, wy⟩ := open_int Try.underlying22 (hval 2 22 v2 rfl rfl) h2
  clear hA0 hval0
  simp only [List.append_nil] at hW'
  refine (sumClose_any w x y W (word_of_wf wx).1 (word_of_wf wx).2 (word_of_wf wy).1 (word_of_wf wy).2).mono fun e W' ⟨he, hb⟩ => ?_
  subst he
  exact ⟨_, rfl, ⟨_, _, _, [], [], [], hW', trodAll_mk1 (shut_bool Try.underlying4 _), trodAll_mk3 (shut_int Try.underlying3 ww) (shut_int Try.underlying22 wx) (shut_int Try.underlying22 wy), rfl, hb.frame _, fun h => by cases h⟩⟩

theorem sumClose_holds : Rows.SumCloseSaid :=
  OpenClaim.holds_of_wide 7 Try.f7 rfl rfl rfl rfl rfl rfl rfl ⟨rfl, rfl, rfl, rfl, rfl⟩ rfl rfl rfl rfl rfl (by kernel_rfl) Try.func7 (by kernel_rfl)
    (of_decide_eq_true (by kernel_rfl)) (by unfold Func.isWrapper; first | (rw [if_pos (by decide +kernel)]; kernel_rfl) | (rw [if_neg (by decide +kernel)]; exact ⟨rfl, rfl⟩))
    (fun os started H enc _ => sumClose_lifted os started H enc)

#print axioms sumClose_holds
end Go.Proofs.Yticbhdgamblmbaa
