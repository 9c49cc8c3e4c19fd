/- For every word, row of bytes and number of bits the law LebBack answers true, and they read as before: what is put is read as it was, with anything behind it, of 64 bits and of as few as it has; cut off it ends too early; no condition. -/
import Derived.Test.YtbmkhhkklglomaaLawB
import Derived.Test.YtbmkhhkklglomaaOpn
namespace Go.Proofs.Ytbmkhhkklglomaa
open Go.ChangeShapes Go.WideShapes Go.ChangeAt Go.RowKit Go.Joins

theorem lebBack_any {a : Option Addr} {len cap : Nat} {xs : List Int} (x bits : Int) (W : World) (x0 : 0 ≤ x) (x1 : x < 18446744073709551616) (hX : Byt xs) (hS : len ≤ 140737488355328 → Sl W a len cap xs) :
    Calls Try.prog 5 #[.int .u64 x, .slice a len cap, .int .i64 bits] W fun r W' => r = .returned (.bool true) ∧ Below W.heap.size W W' := back_any x bits W x0 x1 hX hS

set_option maxRecDepth 100000 in
theorem lebBack_lifted (os : Os) (started : os.Started) (H : Type) (enc : TypeId × Value → H) :
    ReturnsInHanded {} Try.checked os 5 .any (Rows.lebBackSpec.pre6 enc Try.prog Try.f5 Rows.lebBackRow.domain false) (Rows.lebBackSpec.post enc Try.prog Try.f5 false true false false) := by
  refine returnsInHanded_of_change (C := Try.checked) Try.own started (by kernel_rfl) Try.func5
    (ChangeSpec.witness6 (enc := enc) (C := Try.checked) false ⟨#[], #[.int .u64 0, .slice none 0 0, .int .i64 0], []⟩ 8 (by kernel_rfl) (by kernel_rfl) (by kernel_rfl) (by kernel_rfl)) ?_
  intro W base args ds gs before hval0 hW hcnd _
  have hval : ∀ (j : Nat) t v, Try.f5.params[j]? = some t → args[j]? = some v → Value.okWide Try.prog W .any base t v := hval0
  have hW' := hW
  obtain ⟨p, q, hA0, hV, rfl, hfz, hnd⟩ := hW
  have hA : DataW.TrodAll enc Try.prog W 0 (fun _ => true) true Try.f5.params.toList args.toList ds p := hA0
  rw [Try.params5] at hA hval
  obtain ⟨v0, v1, v2, d0, d1, d2, p0, p1, p2, rfl, rfl, rfl, h0, h1, h2⟩ := trodAll_three hA
  obtain ⟨rfl, rfl⟩ := trodVars_none hV
  obtain ⟨x0, rfl, rfl, rfl, w0⟩ := open_int Try.underlying24 (hval 0 24 v0 rfl rfl) h0
  obtain ⟨a1, len1, cap1, xs1, rfl, hS1, hX1, rd1⟩ := open_bytes (hval 1 22 v1 rfl rfl) h1
  obtain ⟨x2, rfl, rfl, rfl, w2⟩ := open_int Try.underlying3 (hval 2 3 v2 rfl rfl) h2
  clear hA0 hval0
  refine (lebBack_any x0 x2 W (word_of_wf w0).1 (word_of_wf w0).2 hX1 hS1).mono fun e W' ⟨he, hb⟩ => ?_
  subst he
  obtain ⟨q1, hq1⟩ := rd1 W' hb
  exact ⟨_, rfl, ⟨_, _, _, [], _, [], hW', trodAll_mk1 (shut_bool Try.underlying4 _), trodAll_mk3 (shut_int Try.underlying24 w0) hq1 (shut_int Try.underlying3 w2), rfl, hb.frame _, fun h => by cases h⟩⟩

theorem lebBack_holds : Rows.LebBackSaid :=
  OpenClaim.holds_of_wide 5 Try.f5 rfl rfl rfl rfl rfl rfl rfl ⟨rfl, rfl, rfl, rfl, rfl⟩ rfl rfl rfl rfl rfl (by kernel_rfl) Try.func5 (by kernel_rfl)
    (of_decide_eq_true (by kernel_rfl)) (by unfold Func.isWrapper; first | (rw [if_pos (by decide +kernel)]; kernel_rfl) | (rw [if_neg (by decide +kernel)]; exact ⟨rfl, rfl⟩))
    (fun os started H enc _ => lebBack_lifted os started H enc)

#print axioms lebBack_holds
end Go.Proofs.Ytbmkhhkklglomaa
