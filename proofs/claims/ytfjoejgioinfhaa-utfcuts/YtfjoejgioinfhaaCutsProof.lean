/- For every two rows of bytes and place the law UtfCuts answers true, and they read as before: bytes below 128 are a name of as many characters, and a name that is cut in the midst of a character is none, on either side; no condition. -/
import Derived.Test.YtfjoejgioinfhaaLawD
import Derived.Test.YtfjoejgioinfhaaOpn
namespace Go.Proofs.Ytfjoejgioinfhaa
open Go.ChangeShapes Go.WideShapes Go.ChangeAt Go.RowKit Go.Joins

theorem utfCuts_any {a a' : Option Addr} {len cap len' cap' : Nat} {xs ys : List Int} (k : Int) (W : World) (hX : Byt xs) (hS : len ≤ 140737488355328 → Sl W a len cap xs) (hY : Byt ys) (hT : len' ≤ 140737488355328 → Sl W a' len' cap' ys) :
    Calls Try.prog 6 #[.slice a len cap, .slice a' len' cap', .int .i64 k] W fun r W' => r = .returned (.bool true) ∧ Below W.heap.size W W' := cuts_any k W hX hS hY hT

set_option maxRecDepth 100000 in
theorem utfCuts_lifted (os : Os) (started : os.Started) (H : Type) (enc : TypeId × Value → H) :
    ReturnsInHanded {} Try.checked os 6 .any (Rows.utfCutsSpec.pre6 enc Try.prog Try.f6 Rows.utfCutsRow.domain false) (Rows.utfCutsSpec.post enc Try.prog Try.f6 false true false false) := by
  refine returnsInHanded_of_change (C := Try.checked) Try.own started (by kernel_rfl) Try.func6
    (ChangeSpec.witness6 (enc := enc) (C := Try.checked) false ⟨#[], #[.slice none 0 0, .slice none 0 0, .int .i64 0], []⟩ 8 (by kernel_rfl) (by kernel_rfl) (by kernel_rfl) (by kernel_rfl)) ?_
  intro W base args ds gs before hval0 hW hcnd _
  have hval : ∀ (j : Nat) t v, Try.f6.params[j]? = some t → args[j]? = some v → Value.okWide Try.prog W .any base t v := hval0
  have hW' := hW
  obtain ⟨p, q, hA0, hV, rfl, hfz, hnd⟩ := hW
  have hA : DataW.TrodAll enc Try.prog W 0 (fun _ => true) true Try.f6.params.toList args.toList ds p := hA0
  rw [Try.params6] at hA hval
  obtain ⟨v0, v1, v2, d0, d1, d2, p0, p1, p2, rfl, rfl, rfl, h0, h1, h2⟩ := trodAll_three hA
  obtain ⟨rfl, rfl⟩ := trodVars_none hV
  obtain ⟨a0, len0, cap0, xs0, rfl, hS0, hX0, rd0⟩ := open_bytes (hval 0 22 v0 rfl rfl) h0
  obtain ⟨a1, len1, cap1, xs1, rfl, hS1, hX1, rd1⟩ := open_bytes (hval 1 22 v1 rfl rfl) h1
  obtain ⟨x2, rfl, rfl, rfl, w2⟩ := open_int Try.underlying3 (hval 2 3 v2 rfl rfl) h2
  clear hA0 hval0
  refine (utfCuts_any x2 W hX0 hS0 hX1 hS1).mono fun e W' ⟨he, hb⟩ => ?_
  subst he
  obtain ⟨q0, hq0⟩ := rd0 W' hb
  obtain ⟨q1, hq1⟩ := rd1 W' hb
  exact ⟨_, rfl, ⟨_, _, _, [], _, [], hW', trodAll_mk1 (shut_bool Try.underlying4 _), trodAll_mk3 hq0 hq1 (shut_int Try.underlying3 w2), rfl, hb.frame _, fun h => by cases h⟩⟩

theorem utfCuts_holds : Rows.UtfCutsSaid :=
  OpenClaim.holds_of_wide 6 Try.f6 rfl rfl rfl rfl rfl rfl rfl ⟨rfl, rfl, rfl, rfl, rfl⟩ rfl rfl rfl rfl rfl (by kernel_rfl) Try.func6 (by kernel_rfl)
    (of_decide_eq_true (by kernel_rfl)) (by unfold Func.isWrapper; first | (rw [if_pos (by decide +kernel)]; kernel_rfl) | (rw [if_neg (by decide +kernel)]; exact ⟨rfl, rfl⟩))
    (fun os started H enc _ => utfCuts_lifted os started H enc)

#print axioms utfCuts_holds
end Go.Proofs.Ytfjoejgioinfhaa
