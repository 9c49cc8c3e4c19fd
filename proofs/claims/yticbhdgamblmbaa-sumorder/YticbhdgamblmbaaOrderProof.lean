/- For every int w and all Three x the law SumOrder answers true, and w and x read as before: a sum never falls as an operand rises; no condition. -/
import Derived.Test.YticbhdgamblmbaaG30
import Derived.Test.YticbhdgamblmbaaG32
import Derived.Test.YticbhdgamblmbaaG36
namespace Go.Proofs.Yticbhdgamblmbaa
open Go.ChangeShapes Go.WideShapes Go.ChangeAt Go.RowKit Go.Joins
open Go.Proofs.Yticbhdgamblmbaa.W

theorem sumOrder_any (w x y z : Int) (W : World) (x0 : 0 ≤ x) (x1 : x < 18446744073709551616) (y0 : 0 ≤ y) (y1 : y < 18446744073709551616) (z0 : 0 ≤ z) (z1 : z < 18446744073709551616) :
    Calls Try.prog 6 #[.int .i64 w, .agg #[.int .u64 x, .int .u64 y, .int .u64 z]] W fun r W' => r = .returned (.bool true) ∧ Below W.heap.size W W' := by
  obtain ⟨e, f, P, Q, b, h⟩ := wd_ex w
  have HK := fun W => refKnown_any h W
  have HW := hide awake_any
  by_cases hf : f = 0
  · rw [ne_f hf] at HK
    exact order_no W HW (hide HK)
  have k := h.known hf
  rw [ne_t hf] at HK
  have HK := hide HK
  have HC := hide (fun W => refCmpS_any k W x0 x1 y0 y1)
  by_cases hv : 0 < cmpB P Q x y
  · exact order_gt W HW HK HC hv
  have bx := add_bits (b := b) k x z
  have by' := add_bits (b := b) k y z
  exact order_le W HW HK HC hv (hide (fun W => sumAdd_any k W x0 x1 z0 z1)) (hide (fun W => sumAdd_any k W y0 y1 z0 z1)) (hide (fun W => refCmpS_any k W bx.1 bx.2 by'.1 by'.2)) (ne_t (order_add k hv))

theorem Try.cells38 : Try.prog.cellsOf 38 = 3 := by kernel_rfl

set_option maxRecDepth 100000 in
/-- Three that came in, and how it reads in any later memory. -/
theorem open_three {H : Type} {enc : TypeId × Value → H} {W : World} {base : Nat} {v : Value} {d : DataW H} {p : List MemPlace} {bs : Nat} {sp : Nat → Bool} {hd : Bool}
    (hv : Value.okWide Try.prog W .any base 38 v) (h : DataW.Trod enc Try.prog W bs sp hd 38 v d p) :
    ∃ x y z : Int, (0 ≤ x ∧ x < 18446744073709551616) ∧ (0 ≤ y ∧ y < 18446744073709551616) ∧ (0 ≤ z ∧ z < 18446744073709551616) ∧ v = .agg #[.int .u64 x, .int .u64 y, .int .u64 z] ∧ p = [] ∧ ∀ (W' : World) (bs' : Nat) (sp' : Nat → Bool) (hd' : Bool), DataW.Trod enc Try.prog W' bs' sp' hd' 38 v d [] := by
  obtain ⟨c0, c1, c2, y0, y1, y2, m, rfl, rfl, rfl, hy0, hy1, hy2⟩ := open_agg3 Try.underlying38 (by kernel_rfl) Try.cells38 hv h
  obtain ⟨x, e0, rfl, wx⟩ := DataW.trod_int Try.underlying22 hy0
  obtain ⟨y, e1, rfl, wy⟩ := DataW.trod_int Try.underlying22 hy1
  obtain ⟨z, e2, rfl, wz⟩ := DataW.trod_int Try.underlying22 hy2
  simp at e0 e1 e2
  subst e0 e1 e2
  exact ⟨x, y, z, word_of_wf wx, word_of_wf wy, word_of_wf wz, rfl, rfl, fun W' bs' sp' hd' =>
    shut_agg3 (y0 := (.lit (.int .u64 x), [])) (y1 := (.lit (.int .u64 y), [])) (y2 := (.lit (.int .u64 z), [])) Try.underlying38 (by kernel_rfl) Try.cells38 ⟨1, by simp [DataW.trod, Try.underlying22, wx]⟩ ⟨1, by simp [DataW.trod, Try.underlying22, wy]⟩ ⟨1, by simp [DataW.trod, Try.underlying22, wz]⟩⟩

set_option maxRecDepth 100000 in
theorem sumOrder_lifted (os : Os) (started : os.Started) (H : Type) (enc : TypeId × Value → H) :
    ReturnsInHanded {} Try.checked os 6 .any (Rows.sumOrderSpec.pre6 enc Try.prog Try.f6 Rows.sumOrderRow.domain false) (Rows.sumOrderSpec.post enc Try.prog Try.f6 false true false false) := by
  refine returnsInHanded_of_change (C := Try.checked) Try.own started (by kernel_rfl) Try.func6
    (ChangeSpec.witness6 (enc := enc) (C := Try.checked) false ⟨#[], #[.int .i64 0, .agg #[.int .u64 0, .int .u64 0, .int .u64 0]], []⟩ 8 (by kernel_rfl) (by kernel_rfl) (by kernel_rfl) (by kernel_rfl)) ?_
  intro W base args ds gs before hval0 hW hcnd _
  have hval : ∀ (j : Nat) t v, Try.f6.params[j]? = some t → args[j]? = some v → Value.okWide Try.prog W .any base t v := hval0
  have hW' := hW
  obtain ⟨p, q, hA0, hV, rfl, hfz, hnd⟩ := hW
  have hA : DataW.TrodAll enc Try.prog W 0 (fun _ => true) true Try.f6.params.toList args.toList ds p := hA0
  rw [Try.params6] at hA hval
  obtain ⟨v0, v1, d0, d1, p0, p1, rfl, rfl, rfl, h0, h1⟩ := trodAll_two hA
  obtain ⟨rfl, rfl⟩ := trodVars_none hV
  obtain ⟨w, rfl, rfl, rfl, ww⟩ := open_int Try.underlying3 (hval 0 3 v0 rfl rfl) h0
  obtain ⟨x, y, z, hx, hy, hz, rfl, rfl, rd⟩ := open_three (hval 1 38 v1 rfl rfl) h1
  clear hA0 hval0
  simp only [List.append_nil] at hW'
  refine (sumOrder_any w x y z W hx.1 hx.2 hy.1 hy.2 hz.1 hz.2).mono fun e W' ⟨he, hb⟩ => ?_
  subst he
  exact ⟨_, rfl, ⟨_, _, _, [], [], [], hW', trodAll_mk1 (shut_bool Try.underlying4 _), trodAll_mk2 (shut_int Try.underlying3 ww) (rd _ _ _ _), rfl, hb.frame _, fun h => by cases h⟩⟩

theorem sumOrder_holds : Rows.SumOrderSaid :=
  OpenClaim.holds_of_wide 6 Try.f6 rfl rfl rfl rfl rfl rfl rfl ⟨rfl, rfl, rfl, rfl, rfl⟩ rfl rfl rfl rfl rfl (by kernel_rfl) Try.func6 (by kernel_rfl)
    (of_decide_eq_true (by kernel_rfl)) (by unfold Func.isWrapper; first | (rw [if_pos (by decide +kernel)]; kernel_rfl) | (rw [if_neg (by decide +kernel)]; exact ⟨rfl, rfl⟩))
    (fun os started H enc _ => sumOrder_lifted os started H enc)

#print axioms sumOrder_holds
end Go.Proofs.Yticbhdgamblmbaa
