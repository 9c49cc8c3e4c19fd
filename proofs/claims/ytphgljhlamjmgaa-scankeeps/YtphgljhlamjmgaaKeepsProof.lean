/- What is read goes forward or nowhere, and not beyond the end; read once more from the place ahead it is the same; behind the first failure nothing moves. No condition. -/
import Derived.Test.YtphgljhlamjmgaaOpn
import Derived.Test.YtphgljhlamjmgaaLawG
namespace Go.Proofs.Ytphgljhlamjmgaa
open Go.ChangeShapes Go.WideShapes Go.ChangeAt Go.RowKit Go.Joins

theorem scanKeeps_any {a : Option Addr} {len cap : Nat} {xs : List Int} {oa : Option Addr} {on oc : Nat} {os : List (Int × Int)} {W : World} (hS : len ≤ 140737488355328 → Sl W a len cap xs) (hy : Byt xs) (hO : Ro W oa on oc os) :
    Calls Try.prog 5 #[.slice a len cap, .slice oa on oc] W fun r W' => r = .returned (.bool true) ∧ Below W.heap.size W W' := by
  by_cases h1 : 6000 < len
  · exact keeps_long (Or.inl h1)
  · by_cases h2 : 60 < on
    · exact keeps_long (Or.inr ⟨h1, h2⟩)
    · exact keeps_any (hS (by omega)) hy (by omega) hO (by omega)

set_option maxRecDepth 100000 in
theorem scanKeeps_lifted (os : Os) (started : os.Started) (H : Type) (enc : TypeId × Value → H) :
    ReturnsInHanded {} Try.checked os 5 .any (Rows.scanKeepsSpec.pre6 enc Try.prog Try.f5 Rows.scanKeepsRow.domain false) (Rows.scanKeepsSpec.post enc Try.prog Try.f5 false true false false) := by
  refine returnsInHanded_of_change (C := Try.checked) Try.own started (by kernel_rfl) Try.func5
    (ChangeSpec.witness6 (enc := enc) (C := Try.checked) false ⟨#[], #[.slice none 0 0, .slice none 0 0], []⟩ 8 (by kernel_rfl) (by kernel_rfl) (by kernel_rfl) (by kernel_rfl)) ?_
  intro W base args ds gs before hval0 hW hcnd _
  have hval : ∀ (j : Nat) t v, Try.f5.params[j]? = some t → args[j]? = some v → Value.okWide Try.prog W .any base t v := hval0
  have hW' := hW
  obtain ⟨p, q, hA0, hV, rfl, hfz, hnd⟩ := hW
  have hA : DataW.TrodAll enc Try.prog W 0 (fun _ => true) true Try.f5.params.toList args.toList ds p := hA0
  rw [Try.params5] at hA hval
  obtain ⟨v0, v1, d0, d1, p0, p1, rfl, rfl, rfl, h0, h1⟩ := trodAll_two hA
  obtain ⟨rfl, rfl⟩ := trodVars_none hV
  obtain ⟨a0, len0, cap0, xs0, rfl, hS0, hX0⟩ := open_bytes (hval 0 22 v0 rfl rfl) h0
  obtain ⟨a1, len1, cap1, os1, rfl, hR1⟩ := open_ops (hval 1 23 v1 rfl rfl) h1
  clear hA0 hval0
  refine (scanKeeps_any hS0 hX0 hR1).mono fun e W' ⟨he, hb⟩ => ?_
  subst he
  exact ⟨_, rfl, ⟨_, _, _, [], _, [], hW', trodAll_mk1 (shut_bool Try.underlying4 _), trodAll_mk2 (carry h0 hb (by kernel_rfl) (by decide +kernel)) (carry h1 hb (by kernel_rfl) (by decide +kernel)), rfl, hb.frame _, fun h => by cases h⟩⟩

theorem scanKeeps_holds : Rows.ScanKeepsSaid :=
  OpenClaim.holds_of_wide 5 Try.f5 rfl rfl rfl rfl rfl rfl rfl ⟨rfl, rfl, rfl, rfl, rfl⟩ rfl rfl rfl rfl rfl (by kernel_rfl) Try.func5 (by kernel_rfl)
    (of_decide_eq_true (by kernel_rfl)) (by unfold Func.isWrapper; first | (rw [if_pos (by decide +kernel)]; kernel_rfl) | (rw [if_neg (by decide +kernel)]; exact ⟨rfl, rfl⟩))
    (fun os started H enc _ => scanKeeps_lifted os started H enc)

#print axioms scanKeeps_holds
end Go.Proofs.Ytphgljhlamjmgaa
