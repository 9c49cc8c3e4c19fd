/- For every int w and every word a the law ProductTwice answers true, and w and a read as before: twice a number is that and that together; no condition. -/
import Derived.Test.YtlkmongiknpejaaG23
import Derived.Test.YtlkmongiknpejaaG36
import Derived.Test.YtlkmongiknpejaaG37
namespace Go.Proofs.Ytlkmongiknpejaa
open Go.ChangeShapes Go.WideShapes Go.ChangeAt Go.RowKit Go.Joins
open Go.Proofs.Ytlkmongiknpejaa.W

theorem productTwice_any (w x : Int) (W : World) (x0 : 0 ≤ x) (x1 : x < 18446744073709551616) :
    Calls Try.prog 6 #[.int .i64 w, .int .u64 x] W fun r W' => r = .returned (.bool true) ∧ Below W.heap.size W W' := by
  obtain ⟨e, f, P, Q, b, h⟩ := wd_ex w
  have HK := fun W => refKnown_any h W
  have HW := hide awake_any
  by_cases hf : f = 0
  · rw [ne_f hf] at HK
    exact twice_f W HW (hide HK)
  · have k := h.known hf
    rw [ne_t hf] at HK
    obtain ⟨p1, p2, q1, q2⟩ := k.pos
    have hb : 0 ≤ b ∧ b + 1 < Q ∧ b < 2000 := by rcases k with ⟨-, -, -, -, rfl, rfl⟩ | ⟨-, -, -, -, rfl, rfl⟩ <;> omega
    obtain ⟨r0, r1, -⟩ := pow_open (j := 1) k (by omega) (by omega)
    have HA := fun W => mul_any' k W x0 x1 r0 r1
    obtain ⟨v, hv, -, he⟩ := scale_both k 1 x0 x1
    have h2 : (2 : Nat) ^ (1 : Int).toNat = 2 := rfl
    rw [mul_pow k x (by omega) (by omega), h2, ← add_twice k x] at HA
    have he := he (by omega) (by omega)
    rw [h2, ← add_twice k x] at he
    subst he
    exact twice_t W HW (hide HK) (hide (fun W => refB_any k W)) (i64_id (by omega) (by omega)) (hide (fun W => make_any false (b + 1) 0 k W (by omega) hb.2.1 (by omega) (by omega))) (hide HA) (hide (fun W => sumAdd_any k W x0 x1 x0 x1)) (hide hv)

set_option maxRecDepth 100000 in
theorem productTwice_lifted (os : Os) (started : os.Started) (H : Type) (enc : TypeId × Value → H) :
    ReturnsInHanded {} Try.checked os 6 .any (Rows.productTwiceSpec.pre6 enc Try.prog Try.f6 Rows.productTwiceRow.domain false) (Rows.productTwiceSpec.post enc Try.prog Try.f6 false true false false) := by
  refine returnsInHanded_of_change (C := Try.checked) Try.own started (by kernel_rfl) Try.func6
    (ChangeSpec.witness6 (enc := enc) (C := Try.checked) false ⟨#[], #[.int .i64 0, .int .u64 0], []⟩ 8 (by kernel_rfl) (by kernel_rfl) (by kernel_rfl) (by kernel_rfl)) ?_
  intro W base args ds gs before hval0 hW hcnd _
  have hval : ∀ (j : Nat) t v, Try.f6.params[j]? = some t → args[j]? = some v → Value.okWide Try.prog W .any base t v := hval0
  have hW' := hW
  obtain ⟨p, q, hA0, hV, rfl, hfz, hnd⟩ := hW
  have hA : DataW.TrodAll enc Try.prog W 0 (fun _ => true) true Try.f6.params.toList args.toList ds p := hA0
  rw [Try.params6] at hA hval
  obtain ⟨v0, v1, d0, d1, p0, p1, rfl, rfl, rfl, h0, h1⟩ := trodAll_two hA
  obtain ⟨rfl, rfl⟩ := trodVars_none hV
  obtain ⟨w, rfl, rfl, rfl, ww⟩ := open_int Try.underlying3 (hval 0 3 v0 rfl rfl) h0
  obtain ⟨x, rfl, rfl, rfl, wx⟩ := open_int Try.underlying22 (hval 1 22 v1 rfl rfl) h1
  clear hA0 hval0
  simp only [List.append_nil] at hW'
  refine (productTwice_any w x W (word_of_wf wx).1 (word_of_wf wx).2).mono fun e W' ⟨he, hb⟩ => ?_
  subst he
  exact ⟨_, rfl, ⟨_, _, _, [], [], [], hW', trodAll_mk1 (shut_bool Try.underlying4 _), trodAll_mk2 (shut_int Try.underlying3 ww) (shut_int Try.underlying22 wx), rfl, hb.frame _, fun h => by cases h⟩⟩

theorem productTwice_holds : Rows.ProductTwiceSaid :=
  OpenClaim.holds_of_wide 6 Try.f6 rfl rfl rfl rfl rfl rfl rfl ⟨rfl, rfl, rfl, rfl, rfl⟩ rfl rfl rfl rfl rfl (by kernel_rfl) Try.func6 (by kernel_rfl)
    (of_decide_eq_true (by kernel_rfl)) (by unfold Func.isWrapper; first | (rw [if_pos (by decide +kernel)]; kernel_rfl) | (rw [if_neg (by decide +kernel)]; exact ⟨rfl, rfl⟩))
    (fun os started H enc _ => productTwice_lifted os started H enc)

#print axioms productTwice_holds
end Go.Proofs.Ytlkmongiknpejaa
