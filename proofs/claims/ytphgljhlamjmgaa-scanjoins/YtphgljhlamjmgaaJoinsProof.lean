/- What is read of bytes is read of these with others behind them, and goes as far, but where it wanted more; then what is read of the others alone is read of them. No condition. -/
import Derived.Test.YtphgljhlamjmgaaOpn
import Derived.Test.YtphgljhlamjmgaaLawH
namespace Go.Proofs.Ytphgljhlamjmgaa
open Go.ChangeShapes Go.WideShapes Go.ChangeAt Go.RowKit Go.Joins

theorem scanJoins_any {a : Option Addr} {len cap : Nat} {xs : List Int} {b : Option Addr} {lem cbp : Nat} {ys : List Int} {K n : Int} {W : World} (hS : len ≤ 140737488355328 → Sl W a len cap xs) (hy : Byt xs) (hT : lem ≤ 140737488355328 → Sl W b lem cbp ys) (hz : Byt ys) :
    Calls Try.prog 6 #[.slice a len cap, .slice b lem cbp, .agg #[.int .i64 K, .int .i64 n]] W fun r W' => r = .returned (.bool true) ∧ Below W.heap.size W W' := by
  by_cases h1 : 3000 < len
  · exact joins_long (Or.inl h1)
  · by_cases h2 : 3000 < lem
    · exact joins_long (Or.inr (Or.inl ⟨h1, h2⟩))
    · by_cases h3 : K = 15
      · exact joins_long (Or.inr (Or.inr ⟨h1, h2, h3⟩))
      · exact joins_any (hS (by omega)) hy (by omega) (hT (by omega)) hz (by omega) h3

set_option maxRecDepth 100000 in
theorem scanJoins_lifted (os : Os) (started : os.Started) (H : Type) (enc : TypeId × Value → H) :
    ReturnsInHanded {} Try.checked os 6 .any (Rows.scanJoinsSpec.pre6 enc Try.prog Try.f6 Rows.scanJoinsRow.domain false) (Rows.scanJoinsSpec.post enc Try.prog Try.f6 false true false false) := by
  refine returnsInHanded_of_change (C := Try.checked) Try.own started (by kernel_rfl) Try.func6
    (ChangeSpec.witness6 (enc := enc) (C := Try.checked) false ⟨#[], #[.slice none 0 0, .slice none 0 0, .agg #[.int .i64 0, .int .i64 0]], []⟩ 8 (by kernel_rfl) (by kernel_rfl) (by kernel_rfl) (by kernel_rfl)) ?_
  intro W base args ds gs before hval0 hW hcnd _
  have hval : ∀ (j : Nat) t v, Try.f6.params[j]? = some t → args[j]? = some v → Value.okWide Try.prog W .any base t v := hval0
  have hW' := hW
  obtain ⟨p, q, hA0, hV, rfl, hfz, hnd⟩ := hW
  have hA : DataW.TrodAll enc Try.prog W 0 (fun _ => true) true Try.f6.params.toList args.toList ds p := hA0
  rw [Try.params6] at hA hval
  obtain ⟨v0, v1, v2, d0, d1, d2, p0, p1, p2, rfl, rfl, rfl, h0, h1, h2⟩ := trodAll_three hA
  obtain ⟨rfl, rfl⟩ := trodVars_none hV
  obtain ⟨a0, len0, cap0, xs0, rfl, hS0, hX0⟩ := open_bytes (hval 0 22 v0 rfl rfl) h0
  obtain ⟨a1, len1, cap1, xs1, rfl, hS1, hX1⟩ := open_bytes (hval 1 22 v1 rfl rfl) h1
  obtain ⟨x2, y2, rfl⟩ := open_op (hval 2 31 v2 rfl rfl) h2
  clear hA0 hval0
  refine (scanJoins_any hS0 hX0 hS1 hX1).mono fun e W' ⟨he, hb⟩ => ?_
  subst he
  exact ⟨_, rfl, ⟨_, _, _, [], _, [], hW', trodAll_mk1 (shut_bool Try.underlying4 _), trodAll_mk3 (carry h0 hb (by kernel_rfl) (by decide +kernel)) (carry h1 hb (by kernel_rfl) (by decide +kernel)) (carry h2 hb (by kernel_rfl) (by decide +kernel)), rfl, hb.frame _, fun h => by cases h⟩⟩

theorem scanJoins_holds : Rows.ScanJoinsSaid :=
  OpenClaim.holds_of_wide 6 Try.f6 rfl rfl rfl rfl rfl rfl rfl ⟨rfl, rfl, rfl, rfl, rfl⟩ rfl rfl rfl rfl rfl (by kernel_rfl) Try.func6 (by kernel_rfl)
    (of_decide_eq_true (by kernel_rfl)) (by unfold Func.isWrapper; first | (rw [if_pos (by decide +kernel)]; kernel_rfl) | (rw [if_neg (by decide +kernel)]; exact ⟨rfl, rfl⟩))
    (fun os started H enc _ => scanJoins_lifted os started H enc)

#print axioms scanJoins_holds
end Go.Proofs.Ytphgljhlamjmgaa
