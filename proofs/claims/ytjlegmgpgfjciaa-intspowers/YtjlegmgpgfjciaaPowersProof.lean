/- For all int w, k and every uint64 a the law IntsPowers answers true, and the arguments read as before: shifted left is times a power of two, shifted right is by it, and what is left are the lowest bits. No condition. -/
import Derived.Test.YtjlegmgpgfjciaaLawP
import Derived.Test.YtjlegmgpgfjciaaLawQ
import Derived.Test.YtjlegmgpgfjciaaInD
import Derived.Test.YtjlegmgpgfjciaaNumber
namespace Go.Proofs.Ytjlegmgpgfjciaa
open Go.ChangeShapes Go.WideShapes Go.ChangeAt Go.RowKit Go.Joins
open Go.Proofs.Ytjlegmgpgfjciaa.W

theorem Wm.nat {w H M : Int} {n : Nat} (k : Wm w n H M) (a : Int) : ∃ A : Nat, a % M = (A : Int) ∧ A < 2 ^ n := by
  obtain ⟨h0, h1⟩ := k.cut a
  obtain ⟨-, k2, -⟩ := k.two
  exact ⟨(a % M).toNat, by omega, by omega⟩
theorem Wm.sh {w H M : Int} {n : Nat} (k : Wm w n H M) (b : Int) : ∃ s : Nat, b % w = (s : Int) ∧ s < n := by
  obtain ⟨-, -, k3, k4, -⟩ := k.two
  have h0 := Int.emod_nonneg b (show w ≠ 0 by omega)
  have h1 := Int.emod_lt_of_pos b (show 0 < w by omega)
  exact ⟨(b % w).toNat, by omega, by omega⟩
theorem mask_pow {a : Int} {j : Nat} (ha : Rg a) (hj : j ≤ 63) : bits .and .u64 a (((2 ^ j : Nat) : Int) - 1) = a % ((2 ^ j : Nat) : Int) := by
  have h1 := Nat.two_pow_pos j
  exact and_mask j a _ ha.1 ha.2 (by omega) hj
theorem pow_cut {w H M : Int} {n : Nat} (k : Wm w n H M) {j : Nat} (h : j < n) : ((2 ^ j : Nat) : Int) % M = ((2 ^ j : Nat) : Int) := by
  obtain ⟨-, k2, -⟩ := k.two
  rw [k2, ← Int.natCast_emod, Nat.mod_eq_of_lt (Nat.pow_lt_pow_right (by omega) h)]
theorem cut_mod {a M : Int} {A n j : Nat} (k2 : M = ((2 ^ n : Nat) : Int)) (ha : a % M = (A : Int)) (h : j < n) : (A : Int) % ((2 ^ j : Nat) : Int) = a % ((2 ^ j : Nat) : Int) := by
  rw [← ha, k2]
  refine Int.emod_emod_of_dvd a ?_
  exact Int.natCast_dvd_natCast.2 (Nat.pow_dvd_pow 2 (by omega))
theorem rot_low {A n j : Nat} (hA : A < 2 ^ n) (hj : j < n) : shrN A ((n - j) % n) % 2 ^ j = if j = 0 then 0 else shrN A (n - j) := by
  by_cases h : j = 0
  · rw [if_pos h, h, Nat.pow_zero, Nat.mod_one]
  · rw [if_neg h, Nat.mod_eq_of_lt (show n - j < n by omega)]
    unfold shrN
    refine Nat.mod_eq_of_lt (Nat.div_lt_of_lt_mul ?_)
    rw [← Nat.pow_add, show n - j + j = n by omega]
    exact hA
theorem rot_form {A n j : Nat} (hA : A < 2 ^ n) (hj : j < n) : shlN A n j ||| shrN A ((n - j) % n) % 2 ^ j = rotN A n j := by
  rw [rot_low hA hj]
  unfold rotN
  by_cases h : j = 0
  · rw [if_pos h, h]
    unfold shlN shrN
    rw [Nat.pow_zero, Nat.mul_one, Nat.mod_eq_of_lt hA, show n - 0 = n from rfl, Nat.mod_self, Nat.pow_zero, Nat.div_one, Nat.or_zero, Nat.or_self]
  · rw [if_neg h, Nat.mod_eq_of_lt (show n - j < n by omega)]
theorem intsPowers_any (w x y : Int) (W : World) (x0 : 0 ≤ x) (x1 : x < 18446744073709551616) :
    Calls Try.prog 7 #[.int .i64 w, .int .u64 x, .int .i64 y] W fun r W' => r = .returned (.bool true) ∧ Below W.heap.size W W' := by
  have hx : Rg x := ⟨x0, x1⟩
  rcases wm_or w with k | ⟨n, H, M, k⟩
  · exact unhide (powers_w awake_any (by simpa using k.1) (by simpa using k.2)) W
  · obtain ⟨A, ha, hA⟩ := k.nat x
    obtain ⟨k1, k2, k3, k4, k5, k6, k7⟩ := k.two
    by_cases g : 0 ≤ y ∧ y < w
    · obtain ⟨j, rfl⟩ := Int.eq_ofNat_of_zero_le g.1
      have hj : j < n := by omega
      have h64 : (2 : Nat) ^ j < 18446744073709551616 := Nat.lt_of_lt_of_le (Nat.pow_lt_pow_right (by omega) hj) (by omega)
      have hp0 := Nat.two_pow_pos j
      have hs : (j : Int) % w = (j : Int) := Int.emod_eq_of_lt (by omega) (by omega)
      have hrj : Rg (j : Int) := by unfold Rg; omega
      have hrp : Rg ((2 ^ j : Nat) : Int) := by unfold Rg; omega
      have hpM := pow_cut k hj
      have D1 := divu_any k hx hrp (by rw [hpM]; omega)
      have D2 := remu_any k hx hrp (by rw [hpM]; omega)
      rw [hpM, ha] at D1 D2
      rw [cut_mod k2 ha hj] at D2
      have H1 := shl_any k ha hs hrj
      have H2 := mul_any k x ((2 ^ j : Nat) : Int)
      rw [show x * ((2 ^ j : Nat) : Int) % M = ((shlN A n j : Nat) : Int) by rw [mul_cut, ha, ← Int.natCast_mul, k2]; rfl] at H2
      have H3 := shr_any k ha hs hrj hx
      rw [show ((shrN A j : Nat) : Int) = (A : Int) / ((2 ^ j : Nat) : Int) from Int.natCast_ediv _ _] at H3
      have H4 := rotl_any k ha hs hrj hx
      have hm : ((((n - j) % n : Nat) : Int)) % w = (((n - j) % n : Nat) : Int) := Int.emod_eq_of_lt (by omega) (by have := Nat.mod_lt (n - j) (show 0 < n by omega); omega)
      have hmr : Rg (((n - j) % n : Nat) : Int) := by have := Nat.mod_lt (n - j) (show 0 < n by omega); unfold Rg; omega
      have H5 := shr_any k ha hm hmr hx
      have hq := rg_nat k (shr_lt ((n - j) % n) hA)
      have hy := mask_pow (j := j) hq (by omega)
      rw [← Int.natCast_emod] at hy
      have l1 := shl_lt A n j
      have l2 : shrN A ((n - j) % n) % 2 ^ j < 2 ^ n := Nat.lt_of_le_of_lt (Nat.mod_le _ _) (shr_lt _ hA)
      have hz := Go.u64_or_nat (shlN A n j) (shrN A ((n - j) % n) % 2 ^ j) (by omega) (by omega)
      rw [rot_form hA hj] at hz
      have e1 : IntKind.u64.wrap (2 ^ (j : Int).toNat) = ((2 ^ j : Nat) : Int) := by rw [Int.toNat_natCast, two_cast, IntKind.wrap_u64]; omega
      have e2 : IntKind.u64.wrap (j : Int) = (j : Int) := by rw [IntKind.wrap_u64]; omega
      have e3 : IntKind.u64.wrap (((2 ^ j : Nat) : Int) - 1) = ((2 ^ j : Nat) : Int) - 1 := by rw [IntKind.wrap_u64]; omega
      have hr := mask_pow (j := j) hx (by omega)
      rcases k with ⟨rfl, rfl, rfl, rfl⟩ | ⟨rfl, rfl, rfl, rfl⟩
      · exact unhide (powers_32 awake_any g.1 g.2 e1 e2 D1 D2 H1 H2 H3 H4 H5 e3 hr (by rw [IntKind.wrap_i64, IntKind.wrap_u64, Int.tmod_eq_emod_of_nonneg (by omega)]; omega) hy hz) W
      · exact unhide (powers_64 awake_any g.1 g.2 e1 e2 D1 D2 H1 H2 H3 H4 H5 e3 hr (by rw [IntKind.wrap_i64, IntKind.wrap_u64, Int.tmod_eq_emod_of_nonneg (by omega)]; omega) hy hz) W
    · rcases k with ⟨rfl, rfl, rfl, rfl⟩ | ⟨rfl, rfl, rfl, rfl⟩
      · by_cases g0 : y < 0
        · exact unhide (powers_32n awake_any g0) W
        · exact unhide (powers_32g awake_any (by omega) (by omega)) W
      · by_cases g0 : y < 0
        · exact unhide (powers_64n awake_any g0) W
        · exact unhide (powers_64g awake_any (by omega) (by omega)) W

set_option maxRecDepth 100000 in
theorem intsPowers_lifted (os : Os) (started : os.Started) (H : Type) (enc : TypeId × Value → H) :
    ReturnsInHanded {} Try.checked os 7 .any (Rows.intsPowersSpec.pre6 enc Try.prog Try.f7 Rows.intsPowersRow.domain false) (Rows.intsPowersSpec.post enc Try.prog Try.f7 false true false false) := by
  refine returnsInHanded_of_change (C := Try.checked) Try.own started (by kernel_rfl) Try.func7
    (ChangeSpec.witness6 (enc := enc) (C := Try.checked) false ⟨#[], #[.int .i64 0, .int .u64 0, .int .i64 0], []⟩ 8 (by kernel_rfl) (by kernel_rfl) (by kernel_rfl) (by kernel_rfl)) ?_
  intro W base args ds gs before hval0 hW hcnd _
  have hval : ∀ (j : Nat) t v, Try.f7.params[j]? = some t → args[j]? = some v → Value.okWide Try.prog W .any base t v := hval0
  have hW' := hW
  obtain ⟨p, q, hA0, hV, rfl, hfz, hnd⟩ := hW
  have hA : DataW.TrodAll enc Try.prog W 0 (fun _ => true) true Try.f7.params.toList args.toList ds p := hA0
  rw [Try.params7] at hA hval
  obtain ⟨v0, v1, v2, d0, d1, d2, p0, p1, p2, rfl, rfl, rfl, h0, h1, h2⟩ := trodAll_three hA
  obtain ⟨rfl, rfl⟩ := trodVars_none hV
  obtain ⟨w, rfl, rfl, rfl, ww⟩ := open_int Try.underlying3 (hval 0 3 v0 rfl rfl) h0
  obtain ⟨x, rfl, rfl, rfl, wx⟩ := open_int Try.underlying22 (hval 1 22 v1 rfl rfl) h1
  obtain ⟨y, rfl, rfl, rfl, wy⟩ := open_int Try.underlying3 (hval 2 3 v2 rfl rfl) h2
  clear hA0 hval0
  simp only [List.append_nil] at hW'
  refine (intsPowers_any w x y W  (word_of_wf wx).1 (word_of_wf wx).2 ).mono fun e W' ⟨he, hb⟩ => ?_
  subst he
  exact ⟨_, rfl, ⟨_, _, _, [], [], [], hW', trodAll_mk1 (shut_bool Try.underlying4 _), trodAll_mk3 (shut_int Try.underlying3 ww) (shut_int Try.underlying22 wx) (shut_int Try.underlying3 wy), rfl, hb.frame _, fun h => by cases h⟩⟩

theorem intsPowers_holds : Rows.IntsPowersSaid :=
  OpenClaim.holds_of_wide 7 Try.f7 rfl rfl rfl rfl rfl rfl rfl ⟨rfl, rfl, rfl, rfl, rfl⟩ rfl rfl rfl rfl rfl (by kernel_rfl) Try.func7 (by kernel_rfl)
    (of_decide_eq_true (by kernel_rfl)) (by unfold Func.isWrapper; first | (rw [if_pos (by decide +kernel)]; kernel_rfl) | (rw [if_neg (by decide +kernel)]; exact ⟨rfl, rfl⟩))
    (fun os started H enc _ => intsPowers_lifted os started H enc)

#print axioms intsPowers_holds
end Go.Proofs.Ytjlegmgpgfjciaa
