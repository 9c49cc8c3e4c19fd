/- For every int w and all uint64 a, b the law IntsDivs answers true, and the arguments read as before: any quotient, signed and unsigned, and what is left by it, is the document's, or traps. No condition. -/
import Derived.Test.YtjlegmgpgfjciaaLawD
import Derived.Test.YtjlegmgpgfjciaaInT
import Derived.Test.YtjlegmgpgfjciaaNumber
namespace Go.Proofs.Ytjlegmgpgfjciaa
open Go.ChangeShapes Go.WideShapes Go.ChangeAt Go.RowKit Go.Joins
open Go.Proofs.Ytjlegmgpgfjciaa.W

theorem intsDivs_any (w x y : Int) (W : World) (x0 : 0 ≤ x) (x1 : x < 18446744073709551616) (y0 : 0 ≤ y) (y1 : y < 18446744073709551616) :
    Calls Try.prog 4 #[.int .i64 w, .int .u64 x, .int .u64 y] W fun r W' => r = .returned (.bool true) ∧ Below W.heap.size W W' := by
  have hx : Rg x := ⟨x0, x1⟩
  have hy : Rg y := ⟨y0, y1⟩
  rcases wm_or w with k | ⟨n, H, M, k⟩
  · exact unhide (divs_no_l awake_any (divu_no k x y) (remu_no k x y) (divs_no k x y) (rems_no k x y) (known_N k)) W
  · have HC := rcut_K k hy
    have hz := (sgv_in k y).2.2.1
    by_cases g : y % M = 0
    · rw [g] at HC
      exact unhide (divs_z_l awake_any (divu_z k x hy g) (remu_z k x hy g) (divs_z k x y (hz.2 g)) (rems_z k x y (hz.2 g)) (known_K k) HC) W
    · have gs : ¬ sgv H M y = 0 := fun h => g (hz.1 h)
      have gc : (y % M == 0) = false := by simpa using g
      have HD := rdivs_K k hx hy gs
      have HU := rdivu_K k hx hy g
      by_cases go : sgv H M x = -H ∧ sgv H M y = -1
      · rw [decide_eq_true go] at HD
        have e : (sgv H M x).tmod (sgv H M y) % M = 0 := by rw [go.1, go.2, Int.neg_tmod, Int.tmod_neg, Int.tmod_one]; exact Int.zero_emod M
        rw [e] at HD
        exact unhide (divs_o_l awake_any (divu_any k hx hy g) (remu_any k hx hy g) (divs_o k x y go.1 go.2) (rems_ov k x y go.1 go.2) (known_K k) HC gc HU HD) W
      · rw [decide_eq_false go] at HD
        exact unhide (divs_n_l awake_any (divu_any k hx hy g) (remu_any k hx hy g) (divs_any k x y gs go) (rems_any k x y gs go) (known_K k) HC gc HU HD) W

set_option maxRecDepth 100000 in
theorem intsDivs_lifted (os : Os) (started : os.Started) (H : Type) (enc : TypeId × Value → H) :
    ReturnsInHanded {} Try.checked os 4 .any (Rows.intsDivsSpec.pre6 enc Try.prog Try.f4 Rows.intsDivsRow.domain false) (Rows.intsDivsSpec.post enc Try.prog Try.f4 false true false false) := by
  refine returnsInHanded_of_change (C := Try.checked) Try.own started (by kernel_rfl) Try.func4
    (ChangeSpec.witness6 (enc := enc) (C := Try.checked) false ⟨#[], #[.int .i64 0, .int .u64 0, .int .u64 0], []⟩ 8 (by kernel_rfl) (by kernel_rfl) (by kernel_rfl) (by kernel_rfl)) ?_
  intro W base args ds gs before hval0 hW hcnd _
  have hval : ∀ (j : Nat) t v, Try.f4.params[j]? = some t → args[j]? = some v → Value.okWide Try.prog W .any base t v := hval0
  have hW' := hW
  obtain ⟨p, q, hA0, hV, rfl, hfz, hnd⟩ := hW
  have hA : DataW.TrodAll enc Try.prog W 0 (fun _ => true) true Try.f4.params.toList args.toList ds p := hA0
  rw [Try.params4] at hA hval
  obtain ⟨v0, v1, v2, d0, d1, d2, p0, p1, p2, rfl, rfl, rfl, h0, h1, h2⟩ := trodAll_three hA
  obtain ⟨rfl, rfl⟩ := trodVars_none hV
  obtain ⟨w, rfl, rfl, rfl, ww⟩ := open_int Try.underlying3 (hval 0 3 v0 rfl rfl) h0
  obtain ⟨x, rfl, rfl, rfl, wx⟩ := open_int Try.underlying22 (hval 1 22 v1 rfl rfl) h1
  obtain ⟨y, rfl, rfl, rfl, wy⟩ := open_int Try.underlying22 (hval 2 22 v2 rfl rfl) h2
  clear hA0 hval0
  simp only [List.append_nil] at hW'
  refine (intsDivs_any w x y W  (word_of_wf wx).1 (word_of_wf wx).2 (word_of_wf wy).1 (word_of_wf wy).2).mono fun e W' ⟨he, hb⟩ => ?_
  subst he
  exact ⟨_, rfl, ⟨_, _, _, [], [], [], hW', trodAll_mk1 (shut_bool Try.underlying4 _), trodAll_mk3 (shut_int Try.underlying3 ww) (shut_int Try.underlying22 wx) (shut_int Try.underlying22 wy), rfl, hb.frame _, fun h => by cases h⟩⟩

theorem intsDivs_holds : Rows.IntsDivsSaid :=
  OpenClaim.holds_of_wide 4 Try.f4 rfl rfl rfl rfl rfl rfl rfl ⟨rfl, rfl, rfl, rfl, rfl⟩ rfl rfl rfl rfl rfl (by kernel_rfl) Try.func4 (by kernel_rfl)
    (of_decide_eq_true (by kernel_rfl)) (by unfold Func.isWrapper; first | (rw [if_pos (by decide +kernel)]; kernel_rfl) | (rw [if_neg (by decide +kernel)]; exact ⟨rfl, rfl⟩))
    (fun os started H enc _ => intsDivs_lifted os started H enc)

#print axioms intsDivs_holds
end Go.Proofs.Ytjlegmgpgfjciaa
