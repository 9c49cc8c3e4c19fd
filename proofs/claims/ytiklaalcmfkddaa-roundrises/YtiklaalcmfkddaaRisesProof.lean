/- For every int w and every number x the law RoundRises answers true, and w and x read as before: twice a number is never rounded to less, and a number with one more in its last bit neither; no condition. -/
import Derived.Test.YtiklaalcmfkddaaRises
import Derived.Test.YtiklaalcmfkddaaRisesMath
import Derived.Test.YtiklaalcmfkddaaNumber
namespace Go.Proofs.Ytiklaalcmfkddaa
open Go.ChangeShapes Go.WideShapes Go.ChangeAt Go.RowKit Go.Joins
open Go.Proofs.Ytiklaalcmfkddaa.W

theorem rises_any (w : Int) (n m : Bool) (v : Nat) (X : Int) (W : World) (hv : W2 v) :
    Calls Try.prog 6 #[.int .i64 w, .agg #[.bool n, .int .u64 (hi v), .int .u64 (lo v), .int .i64 X, .bool m]] W fun r W' => r = .returned (.bool true) ∧ Below W.heap.size W W' := by
  obtain ⟨e, f, P, Q, b, h⟩ := wd_ex w
  by_cases hf : f = 0
  · have : w ≠ 32 ∧ w ≠ 64 := by
      rcases h with h | h | h
      · omega
      · omega
      · exact h.1
    exact rises_no W (ne_t this.1) (ne_t this.2)
  have k := h.known hf
  by_cases x0 : X < -1073741824
  · exact rises_lo W (kd_in k) (dt x0)
  by_cases x1 : 1073741824 < X
  · exact rises_hi W (kd_in k) (df x0) (dt x1)
  have HPa := hide (fun W => pack_known v false m X k hv W)
  have HPb := hide (fun W => pack_known v false m (X + 1) k hv W)
  have kb := pack_mono k (num_exp v m (cap_mono (show X ≤ X + 1 by omega)))
  have HU := fun W => add_n v (1 : Int).toNat W
  have ha : addN v (1 : Int).toNat = (v + 1) % 340282366920938463463374607431768211456 := rfl
  have kx : IntKind.i64.wrap (X + 1) = X + 1 := i64_id (by omega) (by omega)
  by_cases hz : v + 1 = 340282366920938463463374607431768211456
  · rw [ha, hz] at HU
    exact rises_z W (kd_in k) (df x0) (df x1) kx HPa HPb (by omega) (hide HU) (by rfl) (by rfl)
  · have hw : W2 (v + 1) := by unfold W2 at hv ⊢; omega
    rw [ha, Nat.mod_eq_of_lt hw] at HU
    have HPd := hide (fun W => pack_known (v + 1) false m X k hw W)
    have kd := pack_mono k (num_le m (cap X) (show v ≤ v + 1 by omega))
    by_cases z1 : hi (v + 1) = 0
    · have z2 : lo (v + 1) ≠ 0 := fun hl => by unfold hi at z1; unfold lo at hl; omega
      exact rises_l W (kd_in k) (df x0) (df x1) kx HPa HPb (by omega) (hide HU) (eq_t z1) (eq_f z2) HPd kd
    · exact rises_h W (kd_in k) (df x0) (df x1) kx HPa HPb (by omega) (hide HU) (eq_f z1) HPd kd

set_option maxRecDepth 100000 in
theorem roundRises_lifted (os : Os) (started : os.Started) (H : Type) (enc : TypeId × Value → H) :
    ReturnsInHanded {} Try.checked os 6 .any (Rows.roundRisesSpec.pre6 enc Try.prog Try.f6 Rows.roundRisesRow.domain false) (Rows.roundRisesSpec.post enc Try.prog Try.f6 false true false false) := by
  refine returnsInHanded_of_change (C := Try.checked) Try.own started (by kernel_rfl) Try.func6
    (ChangeSpec.witness6 (enc := enc) (C := Try.checked) false ⟨#[], #[.int .i64 0, .agg #[.bool false, .int .u64 0, .int .u64 0, .int .i64 0, .bool false]], []⟩ 8 (by kernel_rfl) (by kernel_rfl) (by kernel_rfl) (by kernel_rfl)) ?_
  intro W base args ds gs before hval0 hW hcnd _
  have hval : ∀ (j : Nat) t v, Try.f6.params[j]? = some t → args[j]? = some v → Value.okWide Try.prog W .any base t v := hval0
  have hW' := hW
  obtain ⟨p, q, hA0, hV, rfl, hfz, hnd⟩ := hW
  have hA : DataW.TrodAll enc Try.prog W 0 (fun _ => true) true Try.f6.params.toList args.toList ds p := hA0
  rw [Try.params6] at hA hval
  obtain ⟨v0, v1, d0, d1, p0, p1, rfl, rfl, rfl, h0, h1⟩ := trodAll_two hA
  obtain ⟨rfl, rfl⟩ := trodVars_none hV
  obtain ⟨w, rfl, rfl, rfl, ww⟩ := open_int Try.underlying3 (hval 0 3 v0 rfl rfl) h0
  obtain ⟨n, m, x, X, hx, rfl, rfl, rd⟩ := open_number (hval 1 26 v1 rfl rfl) h1
  clear hA0 hval0
  simp only [List.append_nil] at hW'
  refine (rises_any w n m x X W hx).mono fun e W' ⟨he, hb⟩ => ?_
  subst he
  exact ⟨_, rfl, ⟨_, _, _, [], [], [], hW', trodAll_mk1 (shut_bool Try.underlying4 _), trodAll_mk2 (shut_int Try.underlying3 ww) (rd _ _ _ _), rfl, hb.frame _, fun h => by cases h⟩⟩

theorem roundRises_holds : Rows.RoundRisesSaid :=
  OpenClaim.holds_of_wide 6 Try.f6 rfl rfl rfl rfl rfl rfl rfl ⟨rfl, rfl, rfl, rfl, rfl⟩ rfl rfl rfl rfl rfl (by kernel_rfl) Try.func6 (by kernel_rfl)
    (of_decide_eq_true (by kernel_rfl)) (by unfold Func.isWrapper; first | (rw [if_pos (by decide +kernel)]; kernel_rfl) | (rw [if_neg (by decide +kernel)]; exact ⟨rfl, rfl⟩))
    (fun os started H enc _ => roundRises_lifted os started H enc)

#print axioms roundRises_holds
end Go.Proofs.Ytiklaalcmfkddaa
