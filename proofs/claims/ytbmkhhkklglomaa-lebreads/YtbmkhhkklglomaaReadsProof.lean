/- For every row of bytes, place and number of bits the law LebReads answers true, and they read as before: a number is read as the document says, signed and unsigned, or refused at its first wrong byte; no condition. -/
import Derived.Test.YtbmkhhkklglomaaLawR
import Derived.Test.YtbmkhhkklglomaaOpn
namespace Go.Proofs.Ytbmkhhkklglomaa
open Go.ChangeShapes Go.WideShapes Go.ChangeAt Go.RowKit Go.Joins

theorem lebReads_any {a : Option Addr} {len cap : Nat} {xs : List Int} (k bits : Int) (W : World) (hX : Byt xs) (hS : len ≤ 140737488355328 → Sl W a len cap xs) :
    Calls Try.prog 3 #[.slice a len cap, .int .i64 k, .int .i64 bits] W fun r W' => r = .returned (.bool true) ∧ Below W.heap.size W W' := reads_any k bits W hX hS

set_option maxRecDepth 100000 in
theorem lebReads_lifted (os : Os) (started : os.Started) (H : Type) (enc : TypeId × Value → H) :
    ReturnsInHanded {} Try.checked os 3 .any (Rows.lebReadsSpec.pre6 enc Try.prog Try.f3 Rows.lebReadsRow.domain false) (Rows.lebReadsSpec.post enc Try.prog Try.f3 false true false false) := by
  refine returnsInHanded_of_change (C := Try.checked) Try.own started (by kernel_rfl) Try.func3
    (ChangeSpec.witness6 (enc := enc) (C := Try.checked) false ⟨#[], #[.slice none 0 0, .int .i64 0, .int .i64 0], []⟩ 8 (by kernel_rfl) (by kernel_rfl) (by kernel_rfl) (by kernel_rfl)) ?_
  intro W base args ds gs before hval0 hW hcnd _
  have hval : ∀ (j : Nat) t v, Try.f3.params[j]? = some t → args[j]? = some v → Value.okWide Try.prog W .any base t v := hval0
  have hW' := hW
  obtain ⟨p, q, hA0, hV, rfl, hfz, hnd⟩ := hW
  have hA : DataW.TrodAll enc Try.prog W 0 (fun _ => true) true Try.f3.params.toList args.toList ds p := hA0
  rw [Try.params3] at hA hval
  obtain ⟨v0, v1, v2, d0, d1, d2, p0, p1, p2, rfl, rfl, rfl, h0, h1, h2⟩ := trodAll_three hA
  obtain ⟨rfl, rfl⟩ := trodVars_none hV
  obtain ⟨a0, len0, cap0, xs0, rfl, hS0, hX0, rd0⟩ := open_bytes (hval 0 22 v0 rfl rfl) h0
  obtain ⟨x1, rfl, rfl, rfl, w1⟩ := open_int Try.underlying3 (hval 1 3 v1 rfl rfl) h1
  obtain ⟨x2, rfl, rfl, rfl, w2⟩ := open_int Try.underlying3 (hval 2 3 v2 rfl rfl) h2
  clear hA0 hval0
  refine (lebReads_any x1 x2 W hX0 hS0).mono fun e W' ⟨he, hb⟩ => ?_
  subst he
  obtain ⟨q0, hq0⟩ := rd0 W' hb
  exact ⟨_, rfl, ⟨_, _, _, [], _, [], hW', trodAll_mk1 (shut_bool Try.underlying4 _), trodAll_mk3 hq0 (shut_int Try.underlying3 w1) (shut_int Try.underlying3 w2), rfl, hb.frame _, fun h => by cases h⟩⟩

theorem lebReads_holds : Rows.LebReadsSaid :=
  OpenClaim.holds_of_wide 3 Try.f3 rfl rfl rfl rfl rfl rfl rfl ⟨rfl, rfl, rfl, rfl, rfl⟩ rfl rfl rfl rfl rfl (by kernel_rfl) Try.func3 (by kernel_rfl)
    (of_decide_eq_true (by kernel_rfl)) (by unfold Func.isWrapper; first | (rw [if_pos (by decide +kernel)]; kernel_rfl) | (rw [if_neg (by decide +kernel)]; exact ⟨rfl, rfl⟩))
    (fun os started H enc _ => lebReads_lifted os started H enc)

#print axioms lebReads_holds
end Go.Proofs.Ytbmkhhkklglomaa
