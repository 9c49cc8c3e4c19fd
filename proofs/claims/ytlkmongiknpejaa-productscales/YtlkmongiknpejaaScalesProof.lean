/- For all ints w and n and every list of words the law ProductScales answers true, and w, n and the list read as before: any float times any power of two, and the product of any list, are the document's; no condition. -/
import Derived.Test.YtlkmongiknpejaaG36
import Derived.Test.YtlkmongiknpejaaG37
namespace Go.Proofs.Ytlkmongiknpejaa
open Go.ChangeShapes Go.WideShapes Go.ChangeAt Go.RowKit Go.Joins
open Go.Proofs.Ytlkmongiknpejaa.W

theorem productScales_any (w n : Int) (a : Option Addr) (len cap : Nat) (zs : List Int) (W : World) (hr : Rd W a len zs) (hz : ∀ z ∈ zs, Wrd z) :
    Calls Try.prog 4 #[.int .i64 w, .int .i64 n, .slice a len cap] W fun r W' => r = .returned (.bool true) ∧ Below W.heap.size W W' := by
  obtain ⟨e, f, P, Q, b, h⟩ := wd_ex w
  have HK := fun W => refKnown_any h W
  have HW := hide awake_any
  by_cases hl : (100 : Int) < (len : Int)
  · exact scales_big a len cap W hl HW
  by_cases hf : f = 0
  · rw [ne_f hf] at HK
    have H0 : ∀ zs : List Int, prods (fun _ _ => 0) 0 zs = 0 := by
      intro zs
      unfold prods
      induction zs with
      | nil => rfl
      | cons x xs ih => exact ih
    have HT := fun W' (hb : Below W.heap.size W W') => all_l (w := w) (o := 0) (A := fun _ _ => 0) a len cap zs W' (hr.below hb) (by omega) hz ⟨by omega, by omega⟩ (fun _ _ _ _ => ⟨by omega, by omega⟩) (hide (fun W => whole_none h hf W)) (hide (fun s z hs hz W => mul_no h hf W hs.1 hs.2 hz.1 hz.2))
    rw [H0] at HT
    exact scales_no a len cap W hl HW (hide HT) (hide HK) (hide (fun W => scale_no h hf n W (by omega) (by omega)))
  · have k := h.known hf
    rw [ne_t hf] at HK
    exact scales_l a len cap zs W hr hl hz (one_wrd k) (mul_wrd k) HW (hide (fun W' hb => all_any k a len cap zs W' (hr.below hb) (by omega) hz)) (hide rfl) (hide HK) (hide (fun W => refOne_any k W))
      (hide (fun s z hs hz W => refProd_any k W hs.1 hs.2 hz.1 hz.2)) (hide (fun z hz => by
        obtain ⟨v, h1, h2, -⟩ := scale_both k n hz.1 hz.2
        exact ⟨v, h1, h2⟩))

set_option maxRecDepth 100000 in
theorem productScales_lifted (os : Os) (started : os.Started) (H : Type) (enc : TypeId × Value → H) :
    ReturnsInHanded {} Try.checked os 4 .any (Rows.productScalesSpec.pre6 enc Try.prog Try.f4 Rows.productScalesRow.domain false) (Rows.productScalesSpec.post enc Try.prog Try.f4 false true false false) := by
  refine returnsInHanded_of_change (C := Try.checked) Try.own started (by kernel_rfl) Try.func4
    (ChangeSpec.witness6 (enc := enc) (C := Try.checked) false ⟨#[], #[.int .i64 0, .int .i64 0, .slice none 0 0], []⟩ 8 (by kernel_rfl) (by kernel_rfl) (by kernel_rfl) (by kernel_rfl)) ?_
  intro W base args ds gs before hval0 hW hcnd _
  have hval : ∀ (j : Nat) t v, Try.f4.params[j]? = some t → args[j]? = some v → Value.okWide Try.prog W .any base t v := hval0
  have hW' := hW
  obtain ⟨p, q, hA0, hV, rfl, hfz, hnd⟩ := hW
  have hA : DataW.TrodAll enc Try.prog W 0 (fun _ => true) true Try.f4.params.toList args.toList ds p := hA0
  rw [Try.params4] at hA hval
  obtain ⟨v0, v1, v2, d0, d1, d2, p0, p1, p2, rfl, rfl, rfl, h0, h1, h2⟩ := trodAll_three hA
  obtain ⟨rfl, rfl⟩ := trodVars_none hV
  obtain ⟨w, rfl, rfl, rfl, ww⟩ := open_int Try.underlying3 (hval 0 3 v0 rfl rfl) h0
  obtain ⟨n, rfl, rfl, rfl, wn⟩ := open_int Try.underlying3 (hval 1 3 v1 rfl rfl) h1
  obtain ⟨a, len, cap, zs, rfl, hr, hz, rd⟩ := open_words (hval 2 27 v2 rfl rfl) h2
  clear hA0 hval0
  simp only [List.append_nil] at hW'
  refine (productScales_any w n a len cap zs W hr hz).mono fun e W' ⟨he, hb⟩ => ?_
  subst he
  obtain ⟨p', hp'⟩ := rd W' hb
  exact ⟨_, rfl, ⟨_, _, _, [], _, [], hW', trodAll_mk1 (shut_bool Try.underlying4 _), trodAll_mk3 (shut_int Try.underlying3 ww) (shut_int Try.underlying3 wn) hp', rfl, hb.frame _, fun h => by cases h⟩⟩

theorem productScales_holds : Rows.ProductScalesSaid :=
  OpenClaim.holds_of_wide 4 Try.f4 rfl rfl rfl rfl rfl rfl rfl ⟨rfl, rfl, rfl, rfl, rfl⟩ rfl rfl rfl rfl rfl (by kernel_rfl) Try.func4 (by kernel_rfl)
    (of_decide_eq_true (by kernel_rfl)) (by unfold Func.isWrapper; first | (rw [if_pos (by decide +kernel)]; kernel_rfl) | (rw [if_neg (by decide +kernel)]; exact ⟨rfl, rfl⟩))
    (fun os started H enc _ => productScales_lifted os started H enc)

#print axioms productScales_holds
end Go.Proofs.Ytlkmongiknpejaa
