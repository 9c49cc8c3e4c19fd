/- For every int w and all uint64 a, b the law CastOrder answers true, and the arguments read as before: a whole number that isn't below another one is never made a float that is below the other one's. No condition. -/
import Derived.Test.YtahdcbjfabccpaaO29
namespace Go.Proofs.Ytahdcbjfabccpaa
open Go.ChangeShapes Go.WideShapes Go.ChangeAt Go.RowKit Go.Joins
open Go.Proofs.Ytahdcbjfabccpaa.W

theorem make_le {w e f P Q b x y : Int} (k : Kd w e f P Q b) (x0 : 0 ≤ x) (y1 : y < 18446744073709551616) (h : x ≤ y) : makC f P Q b (4503599627370496 * 2048) false x ≤ makC f P Q b (4503599627370496 * 2048) false y := by
  unfold makC
  rw [ngs_f, ngs_f, amt_f, amt_f]
  exact rd_mono k (Nat.mul_le_mul_right _ (by omega))
theorem castOrder_any (w x y : Int) (W : World) (x0 : 0 ≤ x) (x1 : x < 18446744073709551616) (y0 : 0 ≤ y) (y1 : y < 18446744073709551616) :
    Calls Try.prog 4 #[.int .i64 w, .int .u64 x, .int .u64 y] W fun r W' => r = .returned (.bool true) ∧ Below W.heap.size W W' := by
  by_cases h1 : w = 32
  · subst h1
    by_cases g : y < x
    · exact order_32a W awake_any g (fromU_any kd_32 kd_64 y0 y1) (fromU_any kd_32 kd_64 x0 x1) (make_le kd_32 y0 x1 (by omega))
    · by_cases g2 : x < y
      · exact order_32b W awake_any g2 (fromU_any kd_32 kd_64 x0 x1) (fromU_any kd_32 kd_64 y0 y1) (make_le kd_32 x0 y1 (by omega))
      · exact order_32c W awake_any g g2 (fromU_any kd_32 kd_64 x0 x1) (fromU_any kd_32 kd_64 x0 x1) (Int.le_refl _)
  · by_cases h2 : w = 64
    · subst h2
      by_cases g : y < x
      · exact order_64a W awake_any g (fromU_any kd_64 kd_64 y0 y1) (fromU_any kd_64 kd_64 x0 x1) (make_le kd_64 y0 x1 (by omega))
      · by_cases g2 : x < y
        · exact order_64b W awake_any g2 (fromU_any kd_64 kd_64 x0 x1) (fromU_any kd_64 kd_64 y0 y1) (make_le kd_64 x0 y1 (by omega))
        · exact order_64c W awake_any g g2 (fromU_any kd_64 kd_64 x0 x1) (fromU_any kd_64 kd_64 x0 x1) (Int.le_refl _)
    · exact order_no W awake_any (ne_t h1) (ne_t h2)

set_option maxRecDepth 100000 in
theorem castOrder_lifted (os : Os) (started : os.Started) (H : Type) (enc : TypeId × Value → H) :
    ReturnsInHanded {} Try.checked os 4 .any (Rows.castOrderSpec.pre6 enc Try.prog Try.f4 Rows.castOrderRow.domain false) (Rows.castOrderSpec.post enc Try.prog Try.f4 false true false false) := by
  refine returnsInHanded_of_change (C := Try.checked) Try.own started (by kernel_rfl) Try.func4
    (ChangeSpec.witness6 (enc := enc) (C := Try.checked) false ⟨#[], #[.int .i64 0, .int .u64 0, .int .u64 0], []⟩ 8 (by kernel_rfl) (by kernel_rfl) (by kernel_rfl) (by kernel_rfl)) ?_
  intro W base args ds gs before hval0 hW hcnd _
  have hval : ∀ (j : Nat) t v, Try.f4.params[j]? = some t → args[j]? = some v → Value.okWide Try.prog W .any base t v := hval0
  have hW' := hW
  obtain ⟨p, q, hA0, hV, rfl, hfz, hnd⟩ := hW
  have hA : DataW.TrodAll enc Try.prog W 0 (fun _ => true) true Try.f4.params.toList args.toList ds p := hA0
  rw [Try.params4] at hA hval
  obtain ⟨v0, v1, v2, d0, d1, d2, p0, p1, p2, rfl, rfl, rfl, h0, h1, h2⟩ := trodAll_three hA
  obtain ⟨rfl, rfl⟩ := trodVars_none hV
  obtain ⟨w, rfl, rfl, rfl, ww⟩ := open_int Try.underlying3 (hval 0 3 v0 rfl rfl) h0
  obtain ⟨x, rfl, rfl, rfl, wx⟩ := open_int Try.underlying22 (hval 1 22 v1 rfl rfl) h1
  obtain ⟨y, rfl, rfl, rfl, wy⟩ := open_int Try.underlying22 (hval 2 22 v2 rfl rfl) h2
  clear hA0 hval0
  simp only [List.append_nil] at hW'
  refine (castOrder_any w x y W  (word_of_wf wx).1 (word_of_wf wx).2 (word_of_wf wy).1 (word_of_wf wy).2).mono fun e W' ⟨he, hb⟩ => ?_
  subst he
  exact ⟨_, rfl, ⟨_, _, _, [], [], [], hW', trodAll_mk1 (shut_bool Try.underlying4 _), trodAll_mk3 (shut_int Try.underlying3 ww) (shut_int Try.underlying22 wx) (shut_int Try.underlying22 wy), rfl, hb.frame _, fun h => by cases h⟩⟩

theorem castOrder_holds : Rows.CastOrderSaid :=
  OpenClaim.holds_of_wide 4 Try.f4 rfl rfl rfl rfl rfl rfl rfl ⟨rfl, rfl, rfl, rfl, rfl⟩ rfl rfl rfl rfl rfl (by kernel_rfl) Try.func4 (by kernel_rfl)
    (of_decide_eq_true (by kernel_rfl)) (by unfold Func.isWrapper; first | (rw [if_pos (by decide +kernel)]; kernel_rfl) | (rw [if_neg (by decide +kernel)]; exact ⟨rfl, rfl⟩))
    (fun os started H enc _ => castOrder_lifted os started H enc)

#print axioms castOrder_holds
end Go.Proofs.Ytahdcbjfabccpaa
