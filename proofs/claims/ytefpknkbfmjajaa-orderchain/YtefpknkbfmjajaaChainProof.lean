/- For every int w and all Three x the law OrderChain answers true, and w and x read as before: what is below what is below is below, and the lesser and the greater of three don't hang on which two come first; no condition. -/
import Derived.Test.YtefpknkbfmjajaaG20
import Derived.Test.YtefpknkbfmjajaaG36
import Derived.Test.YtefpknkbfmjajaaG38
import Derived.Test.YtefpknkbfmjajaaG41
import Derived.Test.YtefpknkbfmjajaaG42
import Derived.Test.YtefpknkbfmjajaaG43
import Derived.Test.YtefpknkbfmjajaaG44
import Derived.Test.YtefpknkbfmjajaaG45
import Derived.Test.YtefpknkbfmjajaaG46
namespace Go.Proofs.Ytefpknkbfmjajaa
open Go.ChangeShapes Go.WideShapes Go.ChangeAt Go.RowKit Go.Joins
open Go.Proofs.Ytefpknkbfmjajaa.W

theorem orderChain_any (w x y z : Int) (W : World) (x0 : 0 ≤ x) (x1 : x < 18446744073709551616) (y0 : 0 ≤ y) (y1 : y < 18446744073709551616) (z0 : 0 ≤ z) (z1 : z < 18446744073709551616) :
    Calls Try.prog 6 #[.int .i64 w, .agg #[.int .u64 x, .int .u64 y, .int .u64 z]] W fun r W' => r = .returned (.bool true) ∧ Below W.heap.size W W' := by
  obtain ⟨e, f, P, Q, b, h⟩ := wd_ex w
  have HK := fun W => refKnown_any h W
  have HW := hide awake_any
  by_cases hf : f = 0
  · rw [ne_f hf] at HK
    exact chain_no W HW (hide HK)
  have k := h.known hf
  rw [ne_t hf] at HK
  have HK := hide HK
  have L0 := fun W => lt_any k W x0 x1 y0 y1
  have L1 := fun W => lt_any k W y0 y1 z0 z1
  have L2 := fun W => lt_any k W x0 x1 z0 z1
  have E0 := fun W => le_any k W x0 x1 y0 y1
  have E1 := fun W => le_any k W y0 y1 z0 z1
  have E2 := fun W => le_any k W x0 x1 z0 z1
  have M1 := hide (fun W => min_any k W x0 x1 y0 y1)
  have M3 := hide (fun W => min_any k W y0 y1 z0 z1)
  have X1 := hide (fun W => max_any k W x0 x1 y0 y1)
  have X3 := hide (fun W => max_any k W y0 y1 z0 z1)
  obtain ⟨m0, m1⟩ := pick_in k (-1) true x y
  obtain ⟨n0, n1⟩ := pick_in k (-1) true y z
  obtain ⟨p0, p1⟩ := pick_in k 1 false x y
  obtain ⟨q0, q1⟩ := pick_in k 1 false y z
  have M2 := hide (fun W => min_any k W m0 m1 z0 z1)
  have M4 := fun W => min_any k W x0 x1 n0 n1
  have X2 := hide (fun W => max_any k W p0 p1 z0 z1)
  have X4 := fun W => max_any k W x0 x1 q0 q1
  rw [← min_assoc k] at M4
  rw [← max_assoc k] at X4
  have M4 := hide M4
  have X4 := hide X4
  have ta := cmpB_ways P Q x y
  have tb := cmpB_ways P Q y z
  have tc := cmpB_ways P Q x z
  have bt : ∀ c : Int, c = -1 → (c == -1) = true ∧ (c == -1 || c == 0) = true := fun c h => by subst h; exact ⟨rfl, rfl⟩
  have bz : ∀ c : Int, c = 0 → (c == -1) = false ∧ (c == -1 || c == 0) = true := fun c h => by subst h; exact ⟨rfl, rfl⟩
  have bn : ∀ c : Int, c ≠ -1 → c ≠ 0 → (c == -1) = false ∧ (c == -1 || c == 0) = false := fun c h1 h2 => by rw [eq_f h1, eq_f h2]; exact ⟨rfl, rfl⟩
  have three : (cmpB P Q x y = -1 ∧ cmpB P Q y z = -1 ∧ cmpB P Q x z = -1) ∨ (cmpB P Q x y = -1 ∧ cmpB P Q y z = 0 ∧ (cmpB P Q x z = -1 ∨ cmpB P Q x z = 0)) ∨ (cmpB P Q x y = -1 ∧ cmpB P Q y z ≠ -1 ∧ cmpB P Q y z ≠ 0) ∨
      (cmpB P Q x y = 0 ∧ (cmpB P Q y z = -1 ∨ cmpB P Q y z = 0) ∧ (cmpB P Q x z = -1 ∨ cmpB P Q x z = 0)) ∨ (cmpB P Q x y = 0 ∧ cmpB P Q y z ≠ -1 ∧ cmpB P Q y z ≠ 0) ∨ (cmpB P Q x y ≠ -1 ∧ cmpB P Q x y ≠ 0) := by omega
  rcases three with ⟨h1, h2, h3⟩ | ⟨h1, h2, h3⟩ | ⟨h1, h2, h3⟩ | ⟨h1, h2, h3⟩ | ⟨h1, h2, h3⟩ | ⟨h1, h2⟩
  · rw [(bt _ h1).1] at L0
    rw [(bt _ h2).1] at L1
    rw [(bt _ h3).1] at L2
    rw [(bt _ h1).2] at E0
    rw [(bt _ h2).2] at E1
    rw [(bt _ h3).2] at E2
    exact chain_f W HW HK (hide L0) (hide L1) (hide L2) (hide E0) (hide E1) (hide E2) M1 M2 M3 M4 X1 X2 X3 X4
  · rw [(bt _ h1).1] at L0
    rw [(bz _ h2).1] at L1
    rw [(bt _ h1).2] at E0
    rw [(bz _ h2).2] at E1
    rw [h3.elim (fun h => (bt _ h).2) (fun h => (bz _ h).2)] at E2
    exact chain_e W HW HK (hide L0) (hide L1) (hide E0) (hide E1) (hide E2) M1 M2 M3 M4 X1 X2 X3 X4
  · rw [(bt _ h1).1] at L0
    rw [(bn _ h2 h3).1] at L1
    rw [(bt _ h1).2] at E0
    rw [(bn _ h2 h3).2] at E1
    exact chain_d W HW HK (hide L0) (hide L1) (hide E0) (hide E1) M1 M2 M3 M4 X1 X2 X3 X4
  · rw [(bz _ h1).1] at L0
    rw [(bz _ h1).2] at E0
    rw [h2.elim (fun h => (bt _ h).2) (fun h => (bz _ h).2)] at E1
    rw [h3.elim (fun h => (bt _ h).2) (fun h => (bz _ h).2)] at E2
    exact chain_c W HW HK (hide L0) (hide E0) (hide E1) (hide E2) M1 M2 M3 M4 X1 X2 X3 X4
  · rw [(bz _ h1).1] at L0
    rw [(bz _ h1).2] at E0
    rw [(bn _ h2 h3).2] at E1
    exact chain_b W HW HK (hide L0) (hide E0) (hide E1) M1 M2 M3 M4 X1 X2 X3 X4
  · rw [(bn _ h1 h2).1] at L0
    rw [(bn _ h1 h2).2] at E0
    exact chain_a W HW HK (hide L0) (hide E0) M1 M2 M3 M4 X1 X2 X3 X4

theorem Try.cells39 : Try.prog.cellsOf 39 = 3 := by kernel_rfl

set_option maxRecDepth 100000 in
/-- Three that came in, and how it reads in any later memory. -/
theorem open_three {H : Type} {enc : TypeId × Value → H} {W : World} {base : Nat} {v : Value} {d : DataW H} {p : List MemPlace} {bs : Nat} {sp : Nat → Bool} {hd : Bool}
    (hv : Value.okWide Try.prog W .any base 39 v) (h : DataW.Trod enc Try.prog W bs sp hd 39 v d p) :
    ∃ x y z : Int, (0 ≤ x ∧ x < 18446744073709551616) ∧ (0 ≤ y ∧ y < 18446744073709551616) ∧ (0 ≤ z ∧ z < 18446744073709551616) ∧ v = .agg #[.int .u64 x, .int .u64 y, .int .u64 z] ∧ p = [] ∧ ∀ (W' : World) (bs' : Nat) (sp' : Nat → Bool) (hd' : Bool), DataW.Trod enc Try.prog W' bs' sp' hd' 39 v d [] := by
  obtain ⟨c0, c1, c2, y0, y1, y2, m, rfl, rfl, rfl, hy0, hy1, hy2⟩ := open_agg3 Try.underlying39 (by kernel_rfl) Try.cells39 hv h
  obtain ⟨x, e0, rfl, wx⟩ := DataW.trod_int Try.underlying22 hy0
  obtain ⟨y, e1, rfl, wy⟩ := DataW.trod_int Try.underlying22 hy1
  obtain ⟨z, e2, rfl, wz⟩ := DataW.trod_int Try.underlying22 hy2
  simp at e0 e1 e2
  subst e0 e1 e2
  exact ⟨x, y, z, word_of_wf wx, word_of_wf wy, word_of_wf wz, rfl, rfl, fun W' bs' sp' hd' =>
    shut_agg3 (y0 := (.lit (.int .u64 x), [])) (y1 := (.lit (.int .u64 y), [])) (y2 := (.lit (.int .u64 z), [])) Try.underlying39 (by kernel_rfl) Try.cells39 ⟨1, by simp [DataW.trod, Try.underlying22, wx]⟩ ⟨1, by simp [DataW.trod, Try.underlying22, wy]⟩ ⟨1, by simp [DataW.trod, Try.underlying22, wz]⟩⟩

set_option maxRecDepth 100000 in
theorem orderChain_lifted (os : Os) (started : os.Started) (H : Type) (enc : TypeId × Value → H) :
    ReturnsInHanded {} Try.checked os 6 .any (Rows.orderChainSpec.pre6 enc Try.prog Try.f6 Rows.orderChainRow.domain false) (Rows.orderChainSpec.post enc Try.prog Try.f6 false true false false) := by
  refine returnsInHanded_of_change (C := Try.checked) Try.own started (by kernel_rfl) Try.func6
    (ChangeSpec.witness6 (enc := enc) (C := Try.checked) false ⟨#[], #[.int .i64 0, .agg #[.int .u64 0, .int .u64 0, .int .u64 0]], []⟩ 8 (by kernel_rfl) (by kernel_rfl) (by kernel_rfl) (by kernel_rfl)) ?_
  intro W base args ds gs before hval0 hW hcnd _
  have hval : ∀ (j : Nat) t v, Try.f6.params[j]? = some t → args[j]? = some v → Value.okWide Try.prog W .any base t v := hval0
  have hW' := hW
  obtain ⟨p, q, hA0, hV, rfl, hfz, hnd⟩ := hW
  have hA : DataW.TrodAll enc Try.prog W 0 (fun _ => true) true Try.f6.params.toList args.toList ds p := hA0
  rw [Try.params6] at hA hval
  obtain ⟨v0, v1, d0, d1, p0, p1, rfl, rfl, rfl, h0, h1⟩ := trodAll_two hA
  obtain ⟨rfl, rfl⟩ := trodVars_none hV
  obtain ⟨w, rfl, rfl, rfl, ww⟩ := open_int Try.underlying3 (hval 0 3 v0 rfl rfl) h0
  obtain ⟨x, y, z, hx, hy, hz, rfl, rfl, rd⟩ := open_three (hval 1 39 v1 rfl rfl) h1
  clear hA0 hval0
  simp only [List.append_nil] at hW'
  refine (orderChain_any w x y z W hx.1 hx.2 hy.1 hy.2 hz.1 hz.2).mono fun e W' ⟨he, hb⟩ => ?_
  subst he
  exact ⟨_, rfl, ⟨_, _, _, [], [], [], hW', trodAll_mk1 (shut_bool Try.underlying4 _), trodAll_mk2 (shut_int Try.underlying3 ww) (rd _ _ _ _), rfl, hb.frame _, fun h => by cases h⟩⟩

theorem orderChain_holds : Rows.OrderChainSaid :=
  OpenClaim.holds_of_wide 6 Try.f6 rfl rfl rfl rfl rfl rfl rfl ⟨rfl, rfl, rfl, rfl, rfl⟩ rfl rfl rfl rfl rfl (by kernel_rfl) Try.func6 (by kernel_rfl)
    (of_decide_eq_true (by kernel_rfl)) (by unfold Func.isWrapper; first | (rw [if_pos (by decide +kernel)]; kernel_rfl) | (rw [if_neg (by decide +kernel)]; exact ⟨rfl, rfl⟩))
    (fun os started H enc _ => orderChain_lifted os started H enc)

#print axioms orderChain_holds
end Go.Proofs.Ytefpknkbfmjajaa
