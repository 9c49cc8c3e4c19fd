/- For every int w and all uint64 a, b the law IntsBack answers true, and the arguments read as before: a quotient times what it is by, and what is left, is what was divided; what is turned one way is turned back; bits that are 1 and those that are 0 are all. No condition. -/
import Derived.Test.YtjlegmgpgfjciaaLawB
import Derived.Test.YtjlegmgpgfjciaaInD
import Derived.Test.YtjlegmgpgfjciaaNumber
namespace Go.Proofs.Ytjlegmgpgfjciaa
open Go.ChangeShapes Go.WideShapes Go.ChangeAt Go.RowKit Go.Joins
open Go.Proofs.Ytjlegmgpgfjciaa.W

theorem Wm.nat {w H M : Int} {n : Nat} (k : Wm w n H M) (a : Int) : ∃ A : Nat, a % M = (A : Int) ∧ A < 2 ^ n := by
  obtain ⟨h0, h1⟩ := k.cut a
  obtain ⟨-, k2, -⟩ := k.two
  exact ⟨(a % M).toNat, by omega, by omega⟩
theorem Wm.sh {w H M : Int} {n : Nat} (k : Wm w n H M) (b : Int) : ∃ s : Nat, b % w = (s : Int) ∧ s < n := by
  obtain ⟨-, -, k3, k4, -⟩ := k.two
  have h0 := Int.emod_nonneg b (show w ≠ 0 by omega)
  have h1 := Int.emod_lt_of_pos b (show 0 < w by omega)
  exact ⟨(b % w).toNat, by omega, by omega⟩
theorem xor_all {a : Nat} (h : a < 2 ^ 64) : (2 ^ 64 - 1) ^^^ a = 2 ^ 64 - (a + 1) := by
  apply Nat.eq_of_testBit_eq
  intro i
  rw [Nat.testBit_xor, Nat.testBit_two_pow_sub_one, Nat.testBit_two_pow_sub_succ h]
  by_cases hi : i < 64
  · simp [hi]
  · rw [bit_out h (by omega)]; simp [hi]
theorem not_val {a : Int} (ha : Rg a) : bits .xor .u64 IntKind.u64.max a = 18446744073709551615 - a := by
  have e : IntKind.u64.max = 18446744073709551615 := by decide
  unfold Rg at ha
  rw [e, Go.u64_xor _ _ (by omega) (by omega) ha.1 ha.2]
  have h := xor_all (a := a.toNat) (by omega)
  rw [show (18446744073709551615 : Int).toNat = 2 ^ 64 - 1 by decide +kernel, h]
  omega
theorem sum_cut {q b sb t sa M a : Int} (hb : sb % M = b % M) (ha : sa % M = a % M) (h : q * sb + t = sa) : (q % M * b % M + t % M) % M = a % M := by
  rw [← Int.add_emod, Int.add_emod, ← mul_cut, Int.mul_emod, ← hb, ← Int.mul_emod, ← Int.add_emod, h, ha]
theorem back_sub (a b M : Int) : ((a + b) % M - b) % M = a % M := by
  rw [Int.sub_emod, Int.emod_emod, ← Int.sub_emod]
  congr 1
  omega
/-- What the law asks besides quotients. -/
theorem back_rest {w H M : Int} {n : Nat} (k : Wm w n H M) {x y : Int} (hx : Rg x) (hy : Rg y) : ∃ rl p1 p2 : Int,
    Ct 26 #[.int .i64 w, .int .u64 x, .int .u64 y] (.int .u64 rl) ∧ Ct 27 #[.int .i64 w, .int .u64 rl, .int .u64 y] (.int .u64 (x % M)) ∧ Ct 31 #[.int .i64 w, .int .u64 x] (.int .u64 p1) ∧ Ct 31 #[.int .i64 w, .int .u64 (18446744073709551615 - x)] (.int .u64 p2) ∧ IntKind.u64.wrap (p1 + p2) = w := by
  obtain ⟨A, ha, hA⟩ := k.nat x
  obtain ⟨s, hs, hsn⟩ := k.sh y
  have hrl := rot_lt (n := s) hA
  obtain ⟨k1, k2, k3, k4, k5, k6, k7⟩ := k.two
  have e1 : ((rotN A n s : Nat) : Int) % M = ((rotN A n s : Nat) : Int) := by rw [k2, ← Int.natCast_emod, Nat.mod_eq_of_lt hrl]
  have r2 := rotr_any k e1 hs (rg_nat k hrl)
  rw [rot_back hA hsn, ← ha] at r2
  have e2 : (18446744073709551615 - x) % M = ((2 ^ n - 1 - A : Nat) : Int) := by
    have : (18446744073709551615 - x) % M = M - 1 - x % M := by rcases k with ⟨rfl, rfl, rfl, rfl⟩ | ⟨rfl, rfl, rfl, rfl⟩ <;> omega
    omega
  have hp := pop_not n A hA
  refine ⟨_, _, _, rotl_any k ha hs hy hx, r2, pop_any k ha hx, pop_any k e2 (by unfold Rg at *; omega), ?_⟩
  rw [IntKind.wrap_u64]
  omega
theorem div_sum {A B : Int} : A / B * B + A % B = A := by rw [Int.mul_comm]; exact Int.mul_ediv_add_emod A B
theorem intsBack_any (w x y : Int) (W : World) (x0 : 0 ≤ x) (x1 : x < 18446744073709551616) (y0 : 0 ≤ y) (y1 : y < 18446744073709551616) :
    Calls Try.prog 6 #[.int .i64 w, .int .u64 x, .int .u64 y] W fun r W' => r = .returned (.bool true) ∧ Below W.heap.size W W' := by
  have hx : Rg x := ⟨x0, x1⟩
  have hy : Rg y := ⟨y0, y1⟩
  rcases wm_or w with k | ⟨n, H, M, k⟩
  · exact unhide (back_no awake_any (by simpa using k.1) (by simpa using k.2)) W
  · obtain ⟨rl, p1, p2, R1, R2, P1, P2, hp⟩ := back_rest k hx hy
    have A3 := add_any k x y
    have S3 := sub_any k ((x + y) % M) y
    rw [back_sub] at S3
    obtain ⟨-, -, hz, hyM⟩ := sgv_in k y
    obtain ⟨-, -, -, hxM⟩ := sgv_in k x
    obtain ⟨a0, a1⟩ := k.cut x
    obtain ⟨b0, b1⟩ := k.cut y
    by_cases g : y % M = 0
    · have D1 := divs_z k x y (hz.2 g)
      have D2 := rems_z k x y (hz.2 g)
      have D3 := divu_z k x hy g
      have D4 := remu_z k x hy g
      rcases k with ⟨rfl, rfl, rfl, rfl⟩ | ⟨rfl, rfl, rfl, rfl⟩
      · exact unhide (back_32z awake_any rfl (by rw [IntKind.wrap_u64]; omega) D1 D2 D3 D4 R1 R2 P1 (not_val hx) P2 hp rfl A3 S3) W
      · exact unhide (back_64z awake_any (IntKind.wrap_u64 x) D1 D2 D3 D4 R1 R2 P1 (not_val hx) P2 hp rfl A3 S3) W
    · have gs : ¬ sgv H M y = 0 := fun h => g (hz.1 h)
      have D3 := divu_any k hx hy g
      have D4 := remu_any k hx hy g
      have q3 := Int.emod_nonneg (x % M) g
      have q4 := Int.emod_lt_of_pos (x % M) (show 0 < y % M by omega)
      have M2 := mul_any k (x % M / (y % M)) y
      have A2 := add_any k (x % M / (y % M) * y % M) (x % M % (y % M))
      rw [show (x % M / (y % M) * y % M + x % M % (y % M)) % M = x % M by
        have h := sum_cut (q := x % M / (y % M)) (b := y) (sb := y % M) (t := x % M % (y % M)) (sa := x % M) (M := M) (a := x) (Int.emod_emod y M) (Int.emod_emod x M) div_sum
        rw [← mul_cut, Int.emod_eq_of_lt q3 (by omega)] at h
        exact h] at A2
      have L2 := ltu_any k (a := x % M % (y % M)) (b := y) (by unfold Rg; have := (k.two).2.2.2.2.2.2; omega) hy
      rw [decide_eq_true (by rw [Int.emod_eq_of_lt q3 (by omega)]; exact q4)] at L2
      by_cases go : sgv H M x = -H ∧ sgv H M y = -1
      · have D1 := divs_o k x y go.1 go.2
        have D2 := rems_ov k x y go.1 go.2
        rcases k with ⟨rfl, rfl, rfl, rfl⟩ | ⟨rfl, rfl, rfl, rfl⟩
        · exact unhide (back_32o awake_any rfl (by rw [IntKind.wrap_u64]; omega) D1 D2 D3 D4 M2 A2 L2 R1 R2 P1 (not_val hx) P2 hp rfl A3 S3) W
        · exact unhide (back_64o awake_any (IntKind.wrap_u64 x) D1 D2 D3 D4 M2 A2 L2 R1 R2 P1 (not_val hx) P2 hp rfl A3 S3) W
      · have D1 := divs_any k x y gs go
        have D2 := rems_any k x y gs go
        have M1 := mul_any k ((sgv H M x).tdiv (sgv H M y) % M) y
        have A1 := add_any k ((sgv H M x).tdiv (sgv H M y) % M * y % M) ((sgv H M x).tmod (sgv H M y) % M)
        rw [sum_cut hyM hxM (Int.tdiv_mul_add_tmod _ _)] at A1
        rcases k with ⟨rfl, rfl, rfl, rfl⟩ | ⟨rfl, rfl, rfl, rfl⟩
        · exact unhide (back_32n awake_any rfl (by rw [IntKind.wrap_u64]; omega) D1 D2 D3 D4 M1 A1 M2 A2 L2 R1 R2 P1 (not_val hx) P2 hp rfl A3 S3) W
        · exact unhide (back_64n awake_any (IntKind.wrap_u64 x) D1 D2 D3 D4 M1 A1 M2 A2 L2 R1 R2 P1 (not_val hx) P2 hp rfl A3 S3) W

set_option maxRecDepth 100000 in
theorem intsBack_lifted (os : Os) (started : os.Started) (H : Type) (enc : TypeId × Value → H) :
    ReturnsInHanded {} Try.checked os 6 .any (Rows.intsBackSpec.pre6 enc Try.prog Try.f6 Rows.intsBackRow.domain false) (Rows.intsBackSpec.post enc Try.prog Try.f6 false true false false) := by
  refine returnsInHanded_of_change (C := Try.checked) Try.own started (by kernel_rfl) Try.func6
    (ChangeSpec.witness6 (enc := enc) (C := Try.checked) false ⟨#[], #[.int .i64 0, .int .u64 0, .int .u64 0], []⟩ 8 (by kernel_rfl) (by kernel_rfl) (by kernel_rfl) (by kernel_rfl)) ?_
  intro W base args ds gs before hval0 hW hcnd _
  have hval : ∀ (j : Nat) t v, Try.f6.params[j]? = some t → args[j]? = some v → Value.okWide Try.prog W .any base t v := hval0
  have hW' := hW
  obtain ⟨p, q, hA0, hV, rfl, hfz, hnd⟩ := hW
  have hA : DataW.TrodAll enc Try.prog W 0 (fun _ => true) true Try.f6.params.toList args.toList ds p := hA0
  rw [Try.params6] at hA hval
  obtain ⟨v0, v1, v2, d0, d1, d2, p0, p1, p2, rfl, rfl, rfl, h0, h1, h2⟩ := trodAll_three hA
  obtain ⟨rfl, rfl⟩ := trodVars_none hV
  obtain ⟨w, rfl, rfl, rfl, ww⟩ := open_int Try.underlying3 (hval 0 3 v0 rfl rfl) h0
  obtain ⟨x, rfl, rfl, rfl, wx⟩ := open_int Try.underlying22 (hval 1 22 v1 rfl rfl) h1
  obtain ⟨y, rfl, rfl, rfl, wy⟩ := open_int Try.underlying22 (hval 2 22 v2 rfl rfl) h2
  clear hA0 hval0
  simp only [List.append_nil] at hW'
  refine (intsBack_any w x y W  (word_of_wf wx).1 (word_of_wf wx).2 (word_of_wf wy).1 (word_of_wf wy).2).mono fun e W' ⟨he, hb⟩ => ?_
  subst he
  exact ⟨_, rfl, ⟨_, _, _, [], [], [], hW', trodAll_mk1 (shut_bool Try.underlying4 _), trodAll_mk3 (shut_int Try.underlying3 ww) (shut_int Try.underlying22 wx) (shut_int Try.underlying22 wy), rfl, hb.frame _, fun h => by cases h⟩⟩

theorem intsBack_holds : Rows.IntsBackSaid :=
  OpenClaim.holds_of_wide 6 Try.f6 rfl rfl rfl rfl rfl rfl rfl ⟨rfl, rfl, rfl, rfl, rfl⟩ rfl rfl rfl rfl rfl (by kernel_rfl) Try.func6 (by kernel_rfl)
    (of_decide_eq_true (by kernel_rfl)) (by unfold Func.isWrapper; first | (rw [if_pos (by decide +kernel)]; kernel_rfl) | (rw [if_neg (by decide +kernel)]; exact ⟨rfl, rfl⟩))
    (fun os started H enc _ => intsBack_lifted os started H enc)

#print axioms intsBack_holds
end Go.Proofs.Ytjlegmgpgfjciaa
