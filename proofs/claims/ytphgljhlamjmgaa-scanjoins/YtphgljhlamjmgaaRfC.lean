/- The document's reader: so many bytes as a number. -/
import Derived.Test.YtphgljhlamjmgaaRfA
import Derived.Test.YtphgljhlamjmgaaScI
namespace Go.Proofs.Ytphgljhlamjmgaa
open Go.RowKit

/-- Bytes one behind the other, whether they are there or not. -/
def mb (xs : List Int) (k : Nat) (e : Int) : Nat → Int × Nat × Int
  | 0 => (0, k, e)
  | i + 1 => ((mb xs k e i).1 + 256 ^ i * (lift rB 0 xs (mb xs k e i).2.1 (mb xs k e i).2.2).1, (lift rB 0 xs (mb xs k e i).2.1 (mb xs k e i).2.2).2.1, (lift rB 0 xs (mb xs k e i).2.1 (mb xs k e i).2.2).2.2)
theorem mb_lt {xs : List Int} (h : Byt xs) (k : Nat) (e : Int) (i : Nat) : 0 ≤ (mb xs k e i).1 ∧ (mb xs k e i).1 < 256 ^ i := by
  induction i with
  | zero => exact ⟨Int.le_refl 0, by show (0 : Int) < 256 ^ 0; decide⟩
  | succ i ih =>
    have hy := lift_rB_lt h (mb xs k e i).2.1 (mb xs k e i).2.2
    show 0 ≤ (mb xs k e i).1 + 256 ^ i * (lift rB 0 xs (mb xs k e i).2.1 (mb xs k e i).2.2).1 ∧ (mb xs k e i).1 + 256 ^ i * (lift rB 0 xs (mb xs k e i).2.1 (mb xs k e i).2.2).1 < 256 ^ (i + 1)
    generalize (lift rB 0 xs (mb xs k e i).2.1 (mb xs k e i).2.2).1 = y at *
    have hp : (0 : Int) < 256 ^ i := Int.pow_pos (by decide)
    have h1 : (256 : Int) ^ i * y ≤ 256 ^ i * 255 := Int.mul_le_mul_of_nonneg_left (by omega) (by omega)
    have h2 : 0 ≤ (256 : Int) ^ i * y := Int.mul_nonneg (by omega) hy.1
    rw [Int.pow_succ]
    omega
theorem mb_dead (xs : List Int) (k : Nat) (e : Int) (i : Nat) (h : (mb xs k e i).2.2 ≠ 0) (j : Nat) : (mb xs k e (i + j)).2.2 = (mb xs k e i).2.2 := by
  induction j with
  | zero => rfl
  | succ j ih =>
    show (lift rB 0 xs (mb xs k e (i + j)).2.1 (mb xs k e (i + j)).2.2).2.2 = _
    rw [lift_e _ _ _ _ (by rw [ih]; exact h)]
    exact ih
theorem mb_in (xs : List Int) (k i : Nat) (h : k + i ≤ xs.length) : mb xs k 0 i = (lsf ((xs.drop k).take i), k + i, 0) := by
  induction i with
  | zero => rfl
  | succ i ih =>
    show ((mb xs k 0 i).1 + 256 ^ i * (lift rB 0 xs (mb xs k 0 i).2.1 (mb xs k 0 i).2.2).1, (lift rB 0 xs (mb xs k 0 i).2.1 (mb xs k 0 i).2.2).2.1, (lift rB 0 xs (mb xs k 0 i).2.1 (mb xs k 0 i).2.2).2.2) = _
    rw [ih (by omega), take_more _ i (by rw [List.length_drop]; omega), lsf_app, List.length_take, List.length_drop, Nat.min_eq_left (by omega), getD_dropS]
    show (_ + _ * (lift rB 0 xs (k + i) 0).1, (lift rB 0 xs (k + i) 0).2.1, (lift rB 0 xs (k + i) 0).2.2) = _
    rw [lift_rB_in (by omega)]
    rfl
theorem mb_rL (xs : List Int) (k : Nat) (hk : k ≤ xs.length) (e : Int) (n : Nat) : lift (rL n) 0 xs k e = (pk (mb xs k e n).2.2 (mb xs k e n).1 0, back (mb xs k e n).2.2 (mb xs k e n).2.1 k, (mb xs k e n).2.2) := by
  by_cases he : e = 0
  · subst he
    rw [lift_0]
    unfold rL
    by_cases h : n ≤ (xs.drop k).length
    · rw [if_pos h, mb_in xs k n (by rw [List.length_drop] at h; omega)]
      rfl
    · rw [if_neg h]
      rw [List.length_drop] at h
      have h1 : (mb xs k 0 (xs.length - k + 1)).2.2 = 100 := by
        show (lift rB 0 xs (mb xs k 0 (xs.length - k)).2.1 (mb xs k 0 (xs.length - k)).2.2).2.2 = _
        rw [mb_in xs k (xs.length - k) (by omega)]
        show (lift rB 0 xs (k + (xs.length - k)) 0).2.2 = _
        rw [lift_rB_end (by omega)]
      have h2 := mb_dead xs k 0 (xs.length - k + 1) (by rw [h1]; decide) (n - (xs.length - k + 1))
      rw [h1, show xs.length - k + 1 + (n - (xs.length - k + 1)) = n by omega] at h2
      rw [h2]
      rfl
  · have h2 := mb_dead xs k e 0 he n
    rw [Nat.zero_add] at h2
    rw [lift_e _ _ _ _ he, h2]
    show _ = (pk e _ _, back e _ _, e)
    rw [pk_e he, back_e he]
theorem u64_id {x : Int} (h1 : 0 ≤ x) (h2 : x < 18446744073709551616) : IntKind.u64.wrap x = x := by
  simp only [IntKind.wrap, IntKind.bits, IntKind.signed]
  simp
  omega
theorem pow_256 (i : Nat) (h : i ≤ 7) : (0 : Int) < 256 ^ i ∧ (256 : Int) ^ i ≤ 72057594037927936 := by
  have h1 : (256 : Nat) ^ i ≤ 256 ^ 7 := Nat.pow_le_pow_right (by omega) h
  have e : (256 : Nat) ^ 7 = 72057594037927936 := by decide
  rw [e] at h1
  have h2 := Int.ofNat_le.2 h1
  rw [Int.natCast_pow] at h2
  exact ⟨Int.pow_pos (by decide), h2⟩
set_option maxHeartbeats 1000000 in
set_option maxRecDepth 100000 in
theorem rFixed4_any {c : Nat} {a : Option Addr} {len cap k : Nat} {xs : List Int} {e : Int} {W : World} (h : Cs c a len cap xs k e W) :
    Calls Try.prog 51 #[.pointer (some ⟨c, 0, none⟩), .int .i64 4] W fun r W' => r = .returned (.int .u64 (lift (rL 4) 0 xs k e).1) ∧ Cs c a len cap xs (lift (rL 4) 0 xs k e).2.1 (lift (rL 4) 0 xs k e).2.2 W' ∧ Fr [c] W W' := by
  rw [mb_rL _ _ (by rw [h.2.1.1]; exact h.2.2.2.2.1)]
  have hk := h.2.2.2.2.1
  have h1 := h.1.2.1
  have HX := hide h.2.2.2.1
  have H := hide h
  have HF := hide (Fr.refl [c] W)
  have HB := hide (fun k e W h => rByte_any (c := c) (a := a) (len := len) (cap := cap) (xs := xs) (k := k) (e := e) (W := W) h)
  clear h
  go_enter Try.func51, Try.ntmps51
  go_wp2_with fail
  clear h1
  go_loopw [6, 7, 8] (fun v6 v7 v8 wr => ∃ i : Nat, i ≤ 4 ∧ v8 = .int .i64 (i : Int) ∧ v6 = .int .u64 (mb xs k e i).1 ∧ v7 = .int .u64 (IntKind.u64.wrap (256 ^ i)) ∧ Cs c a len cap xs (mb xs k e i).2.1 (mb xs k e i).2.2 wr ∧ Fr [c] W wr) (fun _ _ v8 _ => 4 - (intOf v8).toNat)
  case atStart => exact ⟨0, by omega, rfl, rfl, rfl, unhide H, unhide HF⟩
  case round =>
    obtain ⟨i, hi, rfl, rfl, rfl, hC, hF⟩ := hrel
    have HC := hide hC
    have HF := hide hF
    clear hC hF
    by_cases hlt : i < 4
    · have hi' : (i : Int) < 4 := by omega
      have hp := pow_256 i (by omega)
      have hy := lift_rB_lt (unhide HX) (mb xs k e i).2.1 (mb xs k e i).2.2
      have hm := mb_lt (unhide HX) k e i
      have hm2 := mb_lt (unhide HX) k e (i + 1)
      have hw : IntKind.u64.wrap (256 ^ i) = 256 ^ i := u64_id (by omega) (by omega)
      rw [hw]
      have HS : Hid (mb xs k e (i + 1) = ((mb xs k e i).1 + 256 ^ i * (lift rB 0 xs (mb xs k e i).2.1 (mb xs k e i).2.2).1, (lift rB 0 xs (mb xs k e i).2.1 (mb xs k e i).2.2).2.1, (lift rB 0 xs (mb xs k e i).2.1 (mb xs k e i).2.2).2.2)) := hide rfl
      have HU : Hid (IntKind.u64.wrap (256 ^ (i + 1)) = IntKind.u64.wrap (256 * 256 ^ i)) := hide (by rw [Int.pow_succ, Int.mul_comm])
      rw [unhide HS] at hm2
      have HC2 := hide (unhide HB _ _ _ (unhide HC))
      generalize mb xs k e i = M at *
      obtain ⟨x, k1, e1⟩ := M
      dsimp only at *
      generalize lift rB 0 xs k1 e1 = T at *
      obtain ⟨y, k2, e2⟩ := T
      dsimp only at *
      have hq : (256 : Int) ^ (i + 1) = 256 ^ i * 256 := Int.pow_succ ..
      rw [hq] at hm2
      have HQ : Hid ((256 : Int) ^ i * y = y * 256 ^ i) := hide (Int.mul_comm _ _)
      rw [unhide HQ] at hm2
      have hyy : 0 ≤ y * 256 ^ i := Int.mul_nonneg hy.1 (by omega)
      clear hq hw
      generalize (256 : Int) ^ i = U at *
      go_wp2_with fail
      refine (unhide HC2).mono ?_
      rintro _ w3 ⟨rfl, hC, hF⟩
      have HF := hide ((unhide HF).trans hF)
      have HC := hide hC
      clear hC hF
      go_wp2_with fail
      exact ⟨⟨i + 1, by omega, by go_num, by rw [unhide HS, unhide HQ], by rw [unhide HU], by rw [unhide HS]; exact unhide HC, unhide HF⟩, by simp [intOf]; omega⟩
    · have hi' : ¬ (i : Int) < 4 := by omega
      obtain hi4 : i = 4 := by omega
      obtain ⟨h0, h1, h2, hz⟩ := (unhide HC).1
      clear hz h0 h1
      obtain ⟨⟨x, k1, e1⟩, hM⟩ : ∃ t, mb xs k e i = t := ⟨_, rfl⟩
      rw [hM] at HC h2
      rw [hM]
      have HM : Hid (mb xs k e 4 = (x, k1, e1)) := hide (by rw [← hi4]; exact hM)
      clear hM hi4
      dsimp only at *
      by_cases he : e1 = 0
      · subst he
        go_wp2_with fail
        go_ret
        rw [unhide HM]
        exact ⟨rfl, unhide HC, unhide HF⟩
      · have d : (e1 != 0) = true := bne_iff_ne.2 he
        have HK := hide (rBack_any (k0 := k) (unhide HC) hk)
        have HE := hide he
        clear he
        go_wp2_with fail
        refine (unhide HK).mono ?_
        rintro _ w3 ⟨rfl, hC, hF⟩
        have HF := hide ((unhide HF).trans hF)
        have HC := hide hC
        clear hC hF
        go_wp2_with fail
        go_ret
        rw [unhide HM]
        exact ⟨by rw [pk_e (unhide HE)]; rfl, unhide HC, unhide HF⟩
set_option maxHeartbeats 1000000 in
set_option maxRecDepth 100000 in
theorem rFixed8_any {c : Nat} {a : Option Addr} {len cap k : Nat} {xs : List Int} {e : Int} {W : World} (h : Cs c a len cap xs k e W) :
    Calls Try.prog 51 #[.pointer (some ⟨c, 0, none⟩), .int .i64 8] W fun r W' => r = .returned (.int .u64 (lift (rL 8) 0 xs k e).1) ∧ Cs c a len cap xs (lift (rL 8) 0 xs k e).2.1 (lift (rL 8) 0 xs k e).2.2 W' ∧ Fr [c] W W' := by
  rw [mb_rL _ _ (by rw [h.2.1.1]; exact h.2.2.2.2.1)]
  have hk := h.2.2.2.2.1
  have h1 := h.1.2.1
  have HX := hide h.2.2.2.1
  have H := hide h
  have HF := hide (Fr.refl [c] W)
  have HB := hide (fun k e W h => rByte_any (c := c) (a := a) (len := len) (cap := cap) (xs := xs) (k := k) (e := e) (W := W) h)
  clear h
  go_enter Try.func51, Try.ntmps51
  go_wp2_with fail
  clear h1
  go_loopw [6, 7, 8] (fun v6 v7 v8 wr => ∃ i : Nat, i ≤ 8 ∧ v8 = .int .i64 (i : Int) ∧ v6 = .int .u64 (mb xs k e i).1 ∧ v7 = .int .u64 (IntKind.u64.wrap (256 ^ i)) ∧ Cs c a len cap xs (mb xs k e i).2.1 (mb xs k e i).2.2 wr ∧ Fr [c] W wr) (fun _ _ v8 _ => 8 - (intOf v8).toNat)
  case atStart => exact ⟨0, by omega, rfl, rfl, rfl, unhide H, unhide HF⟩
  case round =>
    obtain ⟨i, hi, rfl, rfl, rfl, hC, hF⟩ := hrel
    have HC := hide hC
    have HF := hide hF
    clear hC hF
    by_cases hlt : i < 8
    · have hi' : (i : Int) < 8 := by omega
      have hp := pow_256 i (by omega)
      have hy := lift_rB_lt (unhide HX) (mb xs k e i).2.1 (mb xs k e i).2.2
      have hm := mb_lt (unhide HX) k e i
      have hm2 := mb_lt (unhide HX) k e (i + 1)
      have hw : IntKind.u64.wrap (256 ^ i) = 256 ^ i := u64_id (by omega) (by omega)
      rw [hw]
      have HS : Hid (mb xs k e (i + 1) = ((mb xs k e i).1 + 256 ^ i * (lift rB 0 xs (mb xs k e i).2.1 (mb xs k e i).2.2).1, (lift rB 0 xs (mb xs k e i).2.1 (mb xs k e i).2.2).2.1, (lift rB 0 xs (mb xs k e i).2.1 (mb xs k e i).2.2).2.2)) := hide rfl
      have HU : Hid (IntKind.u64.wrap (256 ^ (i + 1)) = IntKind.u64.wrap (256 * 256 ^ i)) := hide (by rw [Int.pow_succ, Int.mul_comm])
      rw [unhide HS] at hm2
      have HC2 := hide (unhide HB _ _ _ (unhide HC))
      generalize mb xs k e i = M at *
      obtain ⟨x, k1, e1⟩ := M
      dsimp only at *
      generalize lift rB 0 xs k1 e1 = T at *
      obtain ⟨y, k2, e2⟩ := T
      dsimp only at *
      have hq : (256 : Int) ^ (i + 1) = 256 ^ i * 256 := Int.pow_succ ..
      rw [hq] at hm2
      have HQ : Hid ((256 : Int) ^ i * y = y * 256 ^ i) := hide (Int.mul_comm _ _)
      rw [unhide HQ] at hm2
      have hyy : 0 ≤ y * 256 ^ i := Int.mul_nonneg hy.1 (by omega)
      clear hq hw
      generalize (256 : Int) ^ i = U at *
      go_wp2_with fail
      refine (unhide HC2).mono ?_
      rintro _ w3 ⟨rfl, hC, hF⟩
      have HF := hide ((unhide HF).trans hF)
      have HC := hide hC
      clear hC hF
      go_wp2_with fail
      exact ⟨⟨i + 1, by omega, by go_num, by rw [unhide HS, unhide HQ], by rw [unhide HU], by rw [unhide HS]; exact unhide HC, unhide HF⟩, by simp [intOf]; omega⟩
    · have hi' : ¬ (i : Int) < 8 := by omega
      obtain hi4 : i = 8 := by omega
      obtain ⟨h0, h1, h2, hz⟩ := (unhide HC).1
      clear hz h0 h1
      obtain ⟨⟨x, k1, e1⟩, hM⟩ : ∃ t, mb xs k e i = t := ⟨_, rfl⟩
      rw [hM] at HC h2
      rw [hM]
      have HM : Hid (mb xs k e 8 = (x, k1, e1)) := hide (by rw [← hi4]; exact hM)
      clear hM hi4
      dsimp only at *
      by_cases he : e1 = 0
      · subst he
        go_wp2_with fail
        go_ret
        rw [unhide HM]
        exact ⟨rfl, unhide HC, unhide HF⟩
      · have d : (e1 != 0) = true := bne_iff_ne.2 he
        have HK := hide (rBack_any (k0 := k) (unhide HC) hk)
        have HE := hide he
        clear he
        go_wp2_with fail
        refine (unhide HK).mono ?_
        rintro _ w3 ⟨rfl, hC, hF⟩
        have HF := hide ((unhide HF).trans hF)
        have HC := hide hC
        clear hC hF
        go_wp2_with fail
        go_ret
        rw [unhide HM]
        exact ⟨by rw [pk_e (unhide HE)]; rfl, unhide HC, unhide HF⟩
set_option maxHeartbeats 1000000 in
set_option maxRecDepth 100000 in
theorem rFixedno_any {c : Nat} {a : Option Addr} {len cap k : Nat} {xs : List Int} {e z : Int} {W : World} (h : Cs c a len cap xs k e W) (h4 : z ≠ 4) (h8 : z ≠ 8) :
    Calls Try.prog 51 #[.pointer (some ⟨c, 0, none⟩), .int .i64 z] W fun r W' => r = .returned (.int .u64 (lift rArg 0 xs k e).1) ∧ Cs c a len cap xs (lift rArg 0 xs k e).2.1 (lift rArg 0 xs k e).2.2 W' ∧ Fr [c] W W' := by
  rw [lift_Arg]
  have HN := hide (rFail_any (x := 2) h)
  have h1 := h.1.2.1
  clear h
  have d4 : (z != 4) = true := bne_iff_ne.2 h4
  have d8 : (z != 8) = true := bne_iff_ne.2 h8
  generalize (if e = 0 then (2 : Int) else e) = e1 at *
  go_enter Try.func51, Try.ntmps51
  go_wp2_with fail
  refine (unhide HN).mono ?_
  rintro _ w1 ⟨rfl, hC, hF⟩
  have HC := hide hC
  have HF := hide hF
  clear hC hF
  go_wp2_with fail
  go_ret
  exact ⟨rfl, unhide HC, unhide HF⟩
end Go.Proofs.Ytphgljhlamjmgaa
