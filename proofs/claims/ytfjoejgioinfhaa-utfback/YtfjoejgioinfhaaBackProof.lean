/- For every row of runes and row of bytes the law UtfBack answers true, and they read as before: what is put is told as it was, wherever it stands; names one behind the other are a name of as many characters; a byte that can't begin one spoils it; no condition. -/
import Derived.Test.YtfjoejgioinfhaaLawF
import Derived.Test.YtfjoejgioinfhaaOpn
namespace Go.Proofs.Ytfjoejgioinfhaa
open Go.ChangeShapes Go.WideShapes Go.ChangeAt Go.RowKit Go.Joins

theorem utfBack_any {a a' : Option Addr} {len cap len' cap' : Nat} {xs ys : List Int} (W : World) (hS : len ≤ 140737488355328 → Sr W a len cap xs) (hY : Byt ys) (hT : len' ≤ 140737488355328 → Sl W a' len' cap' ys) :
    Calls Try.prog 5 #[.slice a len cap, .slice a' len' cap'] W fun r W' => r = .returned (.bool true) ∧ Below W.heap.size W W' :=
  back_any W (fun h j hj => by
    rcases (hS h).2.2.2 with ⟨_, h0, _⟩ | ⟨b, off, h1, h2⟩
    · omega
    · exact ⟨b, off, h1, h2 j hj⟩) hY hT

set_option maxRecDepth 100000 in
theorem utfBack_lifted (os : Os) (started : os.Started) (H : Type) (enc : TypeId × Value → H) :
    ReturnsInHanded {} Try.checked os 5 .any (Rows.utfBackSpec.pre6 enc Try.prog Try.f5 Rows.utfBackRow.domain false) (Rows.utfBackSpec.post enc Try.prog Try.f5 false true false false) := by
  refine returnsInHanded_of_change (C := Try.checked) Try.own started (by kernel_rfl) Try.func5
    (ChangeSpec.witness6 (enc := enc) (C := Try.checked) false ⟨#[], #[.slice none 0 0, .slice none 0 0], []⟩ 8 (by kernel_rfl) (by kernel_rfl) (by kernel_rfl) (by kernel_rfl)) ?_
  intro W base args ds gs before hval0 hW hcnd _
  have hval : ∀ (j : Nat) t v, Try.f5.params[j]? = some t → args[j]? = some v → Value.okWide Try.prog W .any base t v := hval0
  have hW' := hW
  obtain ⟨p, q, hA0, hV, rfl, hfz, hnd⟩ := hW
  have hA : DataW.TrodAll enc Try.prog W 0 (fun _ => true) true Try.f5.params.toList args.toList ds p := hA0
  rw [Try.params5] at hA hval
  obtain ⟨v0, v1, d0, d1, p0, p1, rfl, rfl, rfl, h0, h1⟩ := trodAll_two hA
  obtain ⟨rfl, rfl⟩ := trodVars_none hV
  obtain ⟨a0, len0, cap0, xs0, rfl, hS0, hX0, rd0⟩ := open_runes (hval 0 37 v0 rfl rfl) h0
  obtain ⟨a1, len1, cap1, xs1, rfl, hS1, hX1, rd1⟩ := open_bytes (hval 1 22 v1 rfl rfl) h1
  clear hA0 hval0
  refine (utfBack_any W hS0 hX1 hS1).mono fun e W' ⟨he, hb⟩ => ?_
  subst he
  obtain ⟨q0, hq0⟩ := rd0 W' hb
  obtain ⟨q1, hq1⟩ := rd1 W' hb
  exact ⟨_, rfl, ⟨_, _, _, [], _, [], hW', trodAll_mk1 (shut_bool Try.underlying4 _), trodAll_mk2 hq0 hq1, rfl, hb.frame _, fun h => by cases h⟩⟩

theorem utfBack_holds : Rows.UtfBackSaid :=
  OpenClaim.holds_of_wide 5 Try.f5 rfl rfl rfl rfl rfl rfl rfl ⟨rfl, rfl, rfl, rfl, rfl⟩ rfl rfl rfl rfl rfl (by kernel_rfl) Try.func5 (by kernel_rfl)
    (of_decide_eq_true (by kernel_rfl)) (by unfold Func.isWrapper; first | (rw [if_pos (by decide +kernel)]; kernel_rfl) | (rw [if_neg (by decide +kernel)]; exact ⟨rfl, rfl⟩))
    (fun os started H enc _ => utfBack_lifted os started H enc)

#print axioms utfBack_holds
end Go.Proofs.Ytfjoejgioinfhaa
