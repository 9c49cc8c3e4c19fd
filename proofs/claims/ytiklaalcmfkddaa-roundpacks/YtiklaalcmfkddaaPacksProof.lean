/- For every int w and every number x the law RoundPacks answers true, and w and x read as before: any number, of any size, is rounded to the document's float; no condition. -/
import Derived.Test.YtiklaalcmfkddaaPacks
import Derived.Test.YtiklaalcmfkddaaExactX
import Derived.Test.YtiklaalcmfkddaaNumber
namespace Go.Proofs.Ytiklaalcmfkddaa
open Go.ChangeShapes Go.WideShapes Go.ChangeAt Go.RowKit Go.Joins
open Go.Proofs.Ytiklaalcmfkddaa.W

theorem packs_any (w : Int) (n m : Bool) (v : Nat) (X : Int) (W : World) (hv : W2 v) :
    Calls Try.prog 3 #[.int .i64 w, .agg #[.bool n, .int .u64 (hi v), .int .u64 (lo v), .int .i64 X, .bool m]] W fun r W' => r = .returned (.bool true) ∧ Below W.heap.size W W' := by
  obtain ⟨e, f, P, Q, b, h⟩ := wd_ex w
  have HK := fun W => refKnown_any h W
  by_cases hf : f = 0
  · rw [ne_f hf] at HK
    exact packs_no W (hide (fun W => pack_no v n m X h hf hv W)) (hide HK)
  · rw [ne_t hf] at HK
    have k := h.known hf
    exact packs_k W (hide (fun W => pack_known v n m X k hv W)) (hide HK) (hide (fun W => refPack_any k n m v X hv W))

set_option maxRecDepth 100000 in
theorem roundPacks_lifted (os : Os) (started : os.Started) (H : Type) (enc : TypeId × Value → H) :
    ReturnsInHanded {} Try.checked os 3 .any (Rows.roundPacksSpec.pre6 enc Try.prog Try.f3 Rows.roundPacksRow.domain false) (Rows.roundPacksSpec.post enc Try.prog Try.f3 false true false false) := by
  refine returnsInHanded_of_change (C := Try.checked) Try.own started (by kernel_rfl) Try.func3
    (ChangeSpec.witness6 (enc := enc) (C := Try.checked) false ⟨#[], #[.int .i64 0, .agg #[.bool false, .int .u64 0, .int .u64 0, .int .i64 0, .bool false]], []⟩ 8 (by kernel_rfl) (by kernel_rfl) (by kernel_rfl) (by kernel_rfl)) ?_
  intro W base args ds gs before hval0 hW hcnd _
  have hval : ∀ (j : Nat) t v, Try.f3.params[j]? = some t → args[j]? = some v → Value.okWide Try.prog W .any base t v := hval0
  have hW' := hW
  obtain ⟨p, q, hA0, hV, rfl, hfz, hnd⟩ := hW
  have hA : DataW.TrodAll enc Try.prog W 0 (fun _ => true) true Try.f3.params.toList args.toList ds p := hA0
  rw [Try.params3] at hA hval
  obtain ⟨v0, v1, d0, d1, p0, p1, rfl, rfl, rfl, h0, h1⟩ := trodAll_two hA
  obtain ⟨rfl, rfl⟩ := trodVars_none hV
  obtain ⟨w, rfl, rfl, rfl, ww⟩ := open_int Try.underlying3 (hval 0 3 v0 rfl rfl) h0
  obtain ⟨n, m, x, X, hx, rfl, rfl, rd⟩ := open_number (hval 1 26 v1 rfl rfl) h1
  clear hA0 hval0
  simp only [List.append_nil] at hW'
  refine (packs_any w n m x X W hx).mono fun e W' ⟨he, hb⟩ => ?_
  subst he
  exact ⟨_, rfl, ⟨_, _, _, [], [], [], hW', trodAll_mk1 (shut_bool Try.underlying4 _), trodAll_mk2 (shut_int Try.underlying3 ww) (rd _ _ _ _), rfl, hb.frame _, fun h => by cases h⟩⟩

theorem roundPacks_holds : Rows.RoundPacksSaid :=
  OpenClaim.holds_of_wide 3 Try.f3 rfl rfl rfl rfl rfl rfl rfl ⟨rfl, rfl, rfl, rfl, rfl⟩ rfl rfl rfl rfl rfl (by kernel_rfl) Try.func3 (by kernel_rfl)
    (of_decide_eq_true (by kernel_rfl)) (by unfold Func.isWrapper; first | (rw [if_pos (by decide +kernel)]; kernel_rfl) | (rw [if_neg (by decide +kernel)]; exact ⟨rfl, rfl⟩))
    (fun os started H enc _ => roundPacks_lifted os started H enc)

#print axioms roundPacks_holds
end Go.Proofs.Ytiklaalcmfkddaa
