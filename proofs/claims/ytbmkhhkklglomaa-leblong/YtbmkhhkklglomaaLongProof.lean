/- For every word, number of bytes more and number of bits the law LebLong answers true, and they read as before: a number with bytes more than it needs is read as it was, as long as its bits have room for them, and refused beyond; no condition. -/
import Derived.Test.YtbmkhhkklglomaaLawL
import Derived.Test.YtbmkhhkklglomaaOpn
namespace Go.Proofs.Ytbmkhhkklglomaa
open Go.ChangeShapes Go.WideShapes Go.ChangeAt Go.RowKit Go.Joins

theorem pow_32 : 2 ^ 32 = 4294967296 := rfl
theorem pow_64 : 2 ^ 64 = 18446744073709551616 := rfl
theorem lebLong_any (x k bits : Int) (W : World) (x0 : 0 ≤ x) (x1 : x < 18446744073709551616) : Calls Try.prog 6 #[.int .u64 x, .int .i64 k, .int .i64 bits] W fun r W' => r = .returned (.bool true) ∧ Below W.heap.size W W' := by
  by_cases h : (k < 0 ∨ 12 < k) ∨ (bits ≠ 32 ∧ bits ≠ 64) ∨ (bits = 32 ∧ 4294967296 ≤ x)
  · exact long_no W x0 x1 h
  · obtain ⟨n, hn⟩ := Int.eq_ofNat_of_zero_le x0
    obtain ⟨k', rfl⟩ := Int.eq_ofNat_of_zero_le (show 0 ≤ k by omega)
    have H1 := putUint_any n (by omega)
    rw [← hn] at H1
    have LL := putU_len 9 n (Nat.lt_of_lt_of_le (show n < 18446744073709551616 by omega) (by decide))
    by_cases h32 : bits = 32
    · subst h32
      obtain ⟨f, y, hp, hg⟩ := lg_ex n 32 (by rw [pow_32]; omega)
      exact long_32 W x0 (by omega) (hide hn) (by rw [bne_eq_false_iff_eq]; omega) (by omega) H1 (hide hp) (hide hg) (hide LL)
    · have h64 : bits = 64 := by omega
      subst h64
      obtain ⟨f, y, hp, hg⟩ := lg_ex n 64 (by rw [pow_64]; omega)
      exact long_64 W (by omega) (hide hn) (by omega) H1 (hide hp) (hide hg) (hide LL)

set_option maxRecDepth 100000 in
theorem lebLong_lifted (os : Os) (started : os.Started) (H : Type) (enc : TypeId × Value → H) :
    ReturnsInHanded {} Try.checked os 6 .any (Rows.lebLongSpec.pre6 enc Try.prog Try.f6 Rows.lebLongRow.domain false) (Rows.lebLongSpec.post enc Try.prog Try.f6 false true false false) := by
  refine returnsInHanded_of_change (C := Try.checked) Try.own started (by kernel_rfl) Try.func6
    (ChangeSpec.witness6 (enc := enc) (C := Try.checked) false ⟨#[], #[.int .u64 0, .int .i64 0, .int .i64 0], []⟩ 8 (by kernel_rfl) (by kernel_rfl) (by kernel_rfl) (by kernel_rfl)) ?_
  intro W base args ds gs before hval0 hW hcnd _
  have hval : ∀ (j : Nat) t v, Try.f6.params[j]? = some t → args[j]? = some v → Value.okWide Try.prog W .any base t v := hval0
  have hW' := hW
  obtain ⟨p, q, hA0, hV, rfl, hfz, hnd⟩ := hW
  have hA : DataW.TrodAll enc Try.prog W 0 (fun _ => true) true Try.f6.params.toList args.toList ds p := hA0
  rw [Try.params6] at hA hval
  obtain ⟨v0, v1, v2, d0, d1, d2, p0, p1, p2, rfl, rfl, rfl, h0, h1, h2⟩ := trodAll_three hA
  obtain ⟨rfl, rfl⟩ := trodVars_none hV
  obtain ⟨x0, rfl, rfl, rfl, w0⟩ := open_int Try.underlying24 (hval 0 24 v0 rfl rfl) h0
  obtain ⟨x1, rfl, rfl, rfl, w1⟩ := open_int Try.underlying3 (hval 1 3 v1 rfl rfl) h1
  obtain ⟨x2, rfl, rfl, rfl, w2⟩ := open_int Try.underlying3 (hval 2 3 v2 rfl rfl) h2
  clear hA0 hval0
  simp only [List.append_nil] at hW'
  refine (lebLong_any x0 x1 x2 W (word_of_wf w0).1 (word_of_wf w0).2).mono fun e W' ⟨he, hb⟩ => ?_
  subst he
  exact ⟨_, rfl, ⟨_, _, _, [], [], [], hW', trodAll_mk1 (shut_bool Try.underlying4 _), trodAll_mk3 (shut_int Try.underlying24 w0) (shut_int Try.underlying3 w1) (shut_int Try.underlying3 w2), rfl, hb.frame _, fun h => by cases h⟩⟩

theorem lebLong_holds : Rows.LebLongSaid :=
  OpenClaim.holds_of_wide 6 Try.f6 rfl rfl rfl rfl rfl rfl rfl ⟨rfl, rfl, rfl, rfl, rfl⟩ rfl rfl rfl rfl rfl (by kernel_rfl) Try.func6 (by kernel_rfl)
    (of_decide_eq_true (by kernel_rfl)) (by unfold Func.isWrapper; first | (rw [if_pos (by decide +kernel)]; kernel_rfl) | (rw [if_neg (by decide +kernel)]; exact ⟨rfl, rfl⟩))
    (fun os started H enc _ => lebLong_lifted os started H enc)

#print axioms lebLong_holds
end Go.Proofs.Ytbmkhhkklglomaa
