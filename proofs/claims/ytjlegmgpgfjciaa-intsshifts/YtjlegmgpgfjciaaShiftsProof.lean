/- For every int w and all uint64 a, b the law IntsShifts answers true, and the arguments read as before: any shift and any turn is the document's. No condition. -/
import Derived.Test.YtjlegmgpgfjciaaLawH
import Derived.Test.YtjlegmgpgfjciaaInU
import Derived.Test.YtjlegmgpgfjciaaInD
import Derived.Test.YtjlegmgpgfjciaaNumber
namespace Go.Proofs.Ytjlegmgpgfjciaa
open Go.ChangeShapes Go.WideShapes Go.ChangeAt Go.RowKit Go.Joins
open Go.Proofs.Ytjlegmgpgfjciaa.W

theorem Wm.nat {w H M : Int} {n : Nat} (k : Wm w n H M) (a : Int) : ∃ A : Nat, a % M = (A : Int) ∧ A < 2 ^ n := by
  obtain ⟨h0, h1⟩ := k.cut a
  obtain ⟨-, k2, -⟩ := k.two
  exact ⟨(a % M).toNat, by omega, by omega⟩
theorem Wm.sh {w H M : Int} {n : Nat} (k : Wm w n H M) (b : Int) : ∃ s : Nat, b % w = (s : Int) ∧ s < n := by
  obtain ⟨-, -, k3, k4, -⟩ := k.two
  have h0 := Int.emod_nonneg b (show w ≠ 0 by omega)
  have h1 := Int.emod_lt_of_pos b (show 0 < w by omega)
  exact ⟨(b % w).toNat, by omega, by omega⟩
theorem turn_K {w H M : Int} {n : Nat} (k : Wm w n H M) {a t : Int} {A : Nat} (hr : Rg a) (ha : a % M = (A : Int)) (t0 : -(n : Int) < t) (t1 : t < n) (rd inn : Bool) : Ct 29 #[.int .i64 w, .int .u64 a, .int .i64 t, .bool rd, .bool inn] (.int .u64 ((num (turnG A n t rd inn) n : Nat) : Int)) := by
  obtain ⟨-, k2, k3, k4, k5, -, k7⟩ := k.two
  have HC := rcut_K k hr
  have hA : A < 18446744073709551616 := by have := (k.cut a).2; omega
  rw [ha, k3] at HC
  rw [k3]
  exact turn_w k5 (by omega) t0 t1 (bits_w k5 (by omega) hA HC) (of_w k5)
theorem neg_K {w H M : Int} {n : Nat} (k : Wm w n H M) {a : Int} {A : Nat} (hr : Rg a) (ha : a % M = (A : Int)) : Ct 28 #[.int .i64 w, .int .u64 a] (.bool (A.testBit (n - 1))) := by
  obtain ⟨e, f, P, Q, b, kd, hH⟩ := k.kd
  have h := fun W => refNeg_any a kd W hr.1 hr.2
  have hA : A < 2 ^ n := by
    obtain ⟨-, k2, -⟩ := k.two
    have := (k.cut a).2
    omega
  rw [show sg P Q a = A.testBit (n - 1) by
    rw [top_bit hA (by have := k.two; omega)]
    unfold sg
    rw [hH]
    rcases k with ⟨rfl, rfl, rfl, rfl⟩ | ⟨rfl, rfl, rfl, rfl⟩
    · by_cases g : 2 ^ (32 - 1) ≤ A
      · rw [decide_eq_true g, beq_iff_eq]; omega
      · rw [decide_eq_false g, beq_eq_false_iff_ne]; omega
    · by_cases g : 2 ^ (64 - 1) ≤ A
      · rw [decide_eq_true g, beq_iff_eq]; omega
      · rw [decide_eq_false g, beq_eq_false_iff_ne]; omega] at h
  exact hide h
theorem intsShifts_any (w x y : Int) (W : World) (x0 : 0 ≤ x) (x1 : x < 18446744073709551616) (y0 : 0 ≤ y) (y1 : y < 18446744073709551616) :
    Calls Try.prog 5 #[.int .i64 w, .int .u64 x, .int .u64 y] W fun r W' => r = .returned (.bool true) ∧ Below W.heap.size W W' := by
  have hx : Rg x := ⟨x0, x1⟩
  have hy : Rg y := ⟨y0, y1⟩
  rcases wm_or w with k | ⟨n, H, M, k⟩
  · exact unhide (shifts_no awake_any (shl_no k x y) (shr_no k x y) (sar_no k x y) (rotl_no k x y) (rotr_no k x y) (known_N k)) W
  · obtain ⟨A, ha, hA⟩ := k.nat x
    obtain ⟨s, hs, hsn⟩ := k.sh y
    have T1 := turn_K k hx ha (t := (s : Int)) (by omega) (by omega) false false
    have T2 := turn_K k hx ha (t := -(s : Int)) (by omega) (by omega) false false
    have T3 := turn_K k hx ha (t := -(s : Int)) (by omega) (by omega) false (A.testBit (n - 1))
    have T4 := turn_K k hx ha (t := (s : Int)) (by omega) (by omega) true false
    have T5 := turn_K k hx ha (t := -(s : Int)) (by omega) (by omega) true false
    rw [turn_shl hsn] at T1
    rw [turn_shr hA hsn] at T2
    rw [turn_sar hA hsn] at T3
    rw [turn_rot hA hsn] at T4
    rw [turn_rotr hA hsn] at T5
    have H0 := shl_any k ha hs hy
    have H1 := shr_any k ha hs hy hx
    have H2 := sar_any k ha hs hy
    have H3 := rotl_any k ha hs hy hx
    have H4 := rotr_any k ha hs hx
    have HN := neg_K k hx ha
    have HC := rcut_K k hy
    have c0 := (k.cut y).1
    have HK := known_K k
    rcases k with ⟨rfl, rfl, rfl, rfl⟩ | ⟨rfl, rfl, rfl, rfl⟩
    · exact unhide (shifts_32 awake_any H0 H1 H2 H3 H4 HK HC c0 (by omega) HN T1 T2 T3 T4 T5) W
    · exact unhide (shifts_64 awake_any H0 H1 H2 H3 H4 HK HC c0 (by omega) HN T1 T2 T3 T4 T5) W

set_option maxRecDepth 100000 in
theorem intsShifts_lifted (os : Os) (started : os.Started) (H : Type) (enc : TypeId × Value → H) :
    ReturnsInHanded {} Try.checked os 5 .any (Rows.intsShiftsSpec.pre6 enc Try.prog Try.f5 Rows.intsShiftsRow.domain false) (Rows.intsShiftsSpec.post enc Try.prog Try.f5 false true false false) := by
  refine returnsInHanded_of_change (C := Try.checked) Try.own started (by kernel_rfl) Try.func5
    (ChangeSpec.witness6 (enc := enc) (C := Try.checked) false ⟨#[], #[.int .i64 0, .int .u64 0, .int .u64 0], []⟩ 8 (by kernel_rfl) (by kernel_rfl) (by kernel_rfl) (by kernel_rfl)) ?_
  intro W base args ds gs before hval0 hW hcnd _
  have hval : ∀ (j : Nat) t v, Try.f5.params[j]? = some t → args[j]? = some v → Value.okWide Try.prog W .any base t v := hval0
  have hW' := hW
  obtain ⟨p, q, hA0, hV, rfl, hfz, hnd⟩ := hW
  have hA : DataW.TrodAll enc Try.prog W 0 (fun _ => true) true Try.f5.params.toList args.toList ds p := hA0
  rw [Try.params5] at hA hval
  obtain ⟨v0, v1, v2, d0, d1, d2, p0, p1, p2, rfl, rfl, rfl, h0, h1, h2⟩ := trodAll_three hA
  obtain ⟨rfl, rfl⟩ := trodVars_none hV
  obtain ⟨w, rfl, rfl, rfl, ww⟩ := open_int Try.underlying3 (hval 0 3 v0 rfl rfl) h0
  obtain ⟨x, rfl, rfl, rfl, wx⟩ := open_int Try.underlying22 (hval 1 22 v1 rfl rfl) h1
  obtain ⟨y, rfl, rfl, rfl, wy⟩ := open_int Try.underlying22 (hval 2 22 v2 rfl rfl) h2
  clear hA0 hval0
  simp only [List.append_nil] at hW'
  refine (intsShifts_any w x y W  (word_of_wf wx).1 (word_of_wf wx).2 (word_of_wf wy).1 (word_of_wf wy).2).mono fun e W' ⟨he, hb⟩ => ?_
  subst he
  exact ⟨_, rfl, ⟨_, _, _, [], [], [], hW', trodAll_mk1 (shut_bool Try.underlying4 _), trodAll_mk3 (shut_int Try.underlying3 ww) (shut_int Try.underlying22 wx) (shut_int Try.underlying22 wy), rfl, hb.frame _, fun h => by cases h⟩⟩

theorem intsShifts_holds : Rows.IntsShiftsSaid :=
  OpenClaim.holds_of_wide 5 Try.f5 rfl rfl rfl rfl rfl rfl rfl ⟨rfl, rfl, rfl, rfl, rfl⟩ rfl rfl rfl rfl rfl (by kernel_rfl) Try.func5 (by kernel_rfl)
    (of_decide_eq_true (by kernel_rfl)) (by unfold Func.isWrapper; first | (rw [if_pos (by decide +kernel)]; kernel_rfl) | (rw [if_neg (by decide +kernel)]; exact ⟨rfl, rfl⟩))
    (fun os started H enc _ => intsShifts_lifted os started H enc)

#print axioms intsShifts_holds
end Go.Proofs.Ytjlegmgpgfjciaa
