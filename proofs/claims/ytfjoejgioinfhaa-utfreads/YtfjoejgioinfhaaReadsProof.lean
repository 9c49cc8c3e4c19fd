/- For every row of bytes and place the law UtfReads answers true, and they read as before: of any bytes the character at any place is the document's, or there is none, and so is how many there are; no condition. -/
import Derived.Test.YtfjoejgioinfhaaLawR
import Derived.Test.YtfjoejgioinfhaaOpn
namespace Go.Proofs.Ytfjoejgioinfhaa
open Go.ChangeShapes Go.WideShapes Go.ChangeAt Go.RowKit Go.Joins

theorem utfReads_any {a : Option Addr} {len cap : Nat} {xs : List Int} (k : Int) (W : World) (hX : Byt xs) (hS : len ≤ 140737488355328 → Sl W a len cap xs) :
    Calls Try.prog 3 #[.slice a len cap, .int .i64 k] W fun r W' => r = .returned (.bool true) ∧ Below W.heap.size W W' := reads_any k W hX hS

set_option maxRecDepth 100000 in
theorem utfReads_lifted (os : Os) (started : os.Started) (H : Type) (enc : TypeId × Value → H) :
    ReturnsInHanded {} Try.checked os 3 .any (Rows.utfReadsSpec.pre6 enc Try.prog Try.f3 Rows.utfReadsRow.domain false) (Rows.utfReadsSpec.post enc Try.prog Try.f3 false true false false) := by
  refine returnsInHanded_of_change (C := Try.checked) Try.own started (by kernel_rfl) Try.func3
    (ChangeSpec.witness6 (enc := enc) (C := Try.checked) false ⟨#[], #[.slice none 0 0, .int .i64 0], []⟩ 8 (by kernel_rfl) (by kernel_rfl) (by kernel_rfl) (by kernel_rfl)) ?_
  intro W base args ds gs before hval0 hW hcnd _
  have hval : ∀ (j : Nat) t v, Try.f3.params[j]? = some t → args[j]? = some v → Value.okWide Try.prog W .any base t v := hval0
  have hW' := hW
  obtain ⟨p, q, hA0, hV, rfl, hfz, hnd⟩ := hW
  have hA : DataW.TrodAll enc Try.prog W 0 (fun _ => true) true Try.f3.params.toList args.toList ds p := hA0
  rw [Try.params3] at hA hval
  obtain ⟨v0, v1, d0, d1, p0, p1, rfl, rfl, rfl, h0, h1⟩ := trodAll_two hA
  obtain ⟨rfl, rfl⟩ := trodVars_none hV
  obtain ⟨a0, len0, cap0, xs0, rfl, hS0, hX0, rd0⟩ := open_bytes (hval 0 22 v0 rfl rfl) h0
  obtain ⟨x1, rfl, rfl, rfl, w1⟩ := open_int Try.underlying3 (hval 1 3 v1 rfl rfl) h1
  clear hA0 hval0
  refine (utfReads_any x1 W hX0 hS0).mono fun e W' ⟨he, hb⟩ => ?_
  subst he
  obtain ⟨q0, hq0⟩ := rd0 W' hb
  exact ⟨_, rfl, ⟨_, _, _, [], _, [], hW', trodAll_mk1 (shut_bool Try.underlying4 _), trodAll_mk2 hq0 (shut_int Try.underlying3 w1), rfl, hb.frame _, fun h => by cases h⟩⟩

theorem utfReads_holds : Rows.UtfReadsSaid :=
  OpenClaim.holds_of_wide 3 Try.f3 rfl rfl rfl rfl rfl rfl rfl ⟨rfl, rfl, rfl, rfl, rfl⟩ rfl rfl rfl rfl rfl (by kernel_rfl) Try.func3 (by kernel_rfl)
    (of_decide_eq_true (by kernel_rfl)) (by unfold Func.isWrapper; first | (rw [if_pos (by decide +kernel)]; kernel_rfl) | (rw [if_neg (by decide +kernel)]; exact ⟨rfl, rfl⟩))
    (fun os started H enc _ => utfReads_lifted os started H enc)

#print axioms utfReads_holds
end Go.Proofs.Ytfjoejgioinfhaa
