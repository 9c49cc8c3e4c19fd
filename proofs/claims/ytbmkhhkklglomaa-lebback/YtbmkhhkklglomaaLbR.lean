/- The walks of the reference's PutUint, PutSint. -/
import Derived.Test.YtbmkhhkklglomaaLbQ
import Derived.Test.YtbmkhhkklglomaaLbC
namespace Go.Proofs.Ytbmkhhkklglomaa
open Go.RowKit

theorem row_cells {w : World} {g : Nat} {ys : List Int} (h : ∀ j, j < ys.length → w.cell? ⟨g, j, none⟩ = some (.int .u8 (ys.getD j 0))) : ∀ j u, (bys ys)[j]? = some u → w.cell? ((⟨g, 0, none⟩ : Addr).add j) = some u := by
  intro j u hu
  have hj : j < ys.length := by
    refine Decidable.byContradiction fun hn => ?_
    rw [List.getElem?_eq_none (by rw [bys_len]; omega)] at hu
    cases hu
  rw [bys_at ys j hj] at hu
  rw [Addr.add_lit, Nat.zero_add, h j hj, hu]
set_option maxHeartbeats 1000000 in
set_option maxRecDepth 100000 in
theorem refPutUint_any : ∀ (k n : Nat), n ≤ k → n < 18446744073709551616 → Puts 13 (n : Int) (putU n) := by
  intro k
  induction k with
  | zero =>
    intro n hk hn
    have h0 : n = 0 := by omega
    subst h0
    refine hide (fun W => ?_)
    rw [putU_last (by omega)]
    go_enter Try.func13, Try.ntmps13
    go_wp2_with fail
    exact bodyPost_ret (v := .slice (some ⟨W.heap.size, 0, none⟩) 1 1) (by simp [results, Try.results13, go_sem]) rfl ⟨_, rfl, World.ownsRow_lit (e := 5) (size := 1) W #[.int .u8 0] 1 (Nat.le_refl _) (by decide) rfl, below1 _ _⟩
  | succ k ih =>
    intro n hk hn
    refine hide (fun W => ?_)
    by_cases h : n < 128
    · rw [putU_last h]
      go_enter Try.func13, Try.ntmps13
      go_wp2_with fail
      exact bodyPost_ret (v := .slice (some ⟨W.heap.size, 0, none⟩) 1 1) (by simp [results, Try.results13, go_sem]) rfl ⟨_, rfl, World.ownsRow_lit (e := 5) (size := 1) W #[.int .u8 (n : Int)] 1 (Nat.le_refl _) (by decide) rfl, below1 _ _⟩
    · have HC := ih (n / 128) (by omega) (by omega)
      rw [show ((n / 128 : Nat) : Int) = (n : Int) / 128 by omega] at HC
      have H10 := hide (putU_len 9 (n / 128) (by have := (show (18446744073709551616 : Nat) ≤ 128 ^ 10 by decide); omega))
      rw [putU_more h]
      have hne := putU_ne (n / 128)
      generalize putU (n / 128) = ys at *
      go_enter Try.func13, Try.ntmps13
      go_upto_region 5 with (at_builtin; refine wpList_append_own _ rfl _ _ 22 rfl (W.heap.size) 5 _ (.int .u8 0) 1 1 Try.underlying22 iU8 rfl rfl rfl rfl (by decide) _ _ _ rfl (World.ownsRow.alloc (ow_nil W W.heap.size) _) ⟨W.heap.size, 0, none⟩ 1 1 [.int .u8 (128 + (n : Int) % 128)] rfl rfl (cell_one_new _ _ _) (bys_cell [_]) (by decide) (by decide) (base_le (Nat.le_refl _) _) ?_; intro v' wz hown' hgr _)
      have hr := app_one (d' := ((128 + n % 128 : Nat) : Int)) (ow_nil W W.heap.size) (Below.refl _ _) (Nat.le_refl _) hown' hgr (by omega)
      have HO := hide hr.1
      have HB := hide hr.2
      clear hown' hgr hr
      obtain ⟨g0, cap0, rfl⟩ := form_one (unhide HO) (by simp)
      go_wp2_with fail
      refine (unhide HC _).mono ?_
      rintro _ w1 ⟨v1, rfl, hv, hb⟩
      obtain ⟨g, cap, rfl, hg1, hg2, hg3, hg4⟩ := hv.form hne
      have HG := hide (row_cells hg4)
      have HO1 := hide ((unhide HO).below hb)
      have HB1 := hide (bthen (unhide HB) hb)
      have hx := unhide H10
      have HL1 := hide (show 1 + ys.length ≤ maxLen by unfold maxLen; omega)
      have HL2 := hide (show (1 + ys.length) * 1 ≤ 140737488355328 by omega)
      have HL3 := hide (show W.heap.size ≤ w1.heap.size from (unhide HB1).size)
      clear hg1 hg2 hg3 hg4 hv hb hx
      go_wp2_with (at_builtin; refine wpList_append_own _ rfl _ _ 22 rfl (W.heap.size) 5 _ (.int .u8 0) 1 1 Try.underlying22 iU8 rfl rfl rfl rfl (by decide) _ _ _ rfl (unhide HO1) ⟨g, 0, none⟩ ys.length cap (bys ys) rfl (by rw [bys_len, Nat.mul_one]) (unhide HG) (bys_cell _) (unhide HL1) (unhide HL2) (unhide HL3) ?_; intro v2 wy hown2 hgr2 _)
      have hr := app_row (unhide HO1) (unhide HB1) (unhide HL3) hown2 hgr2
      obtain ⟨g2, cap2, rfl⟩ := form_one hr.1 (by simp)
      exact bodyPost_ret (v := .slice (some ⟨g2, 0, none⟩) _ cap2) (by simp [results, Try.results13, go_sem]) rfl ⟨_, rfl, hr.1, hr.2⟩
theorem mod_of {s : Int} (h1 : -9223372036854775808 ≤ s) (h2 : s < 9223372036854775808) : s % 18446744073709551616 = if 0 ≤ s then s else s + 18446744073709551616 := by
  by_cases h0 : 0 ≤ s
  · rw [if_pos h0]; omega
  · rw [if_neg h0]; omega
theorem two_63 : Ct 19 #[.int .i64 63] (.int .u64 9223372036854775808) := two_any 63 (by omega)
theorem two_56 : Ct 19 #[.int .i64 56] (.int .u64 72057594037927936) := two_any 56 (by omega)
set_option maxHeartbeats 1000000 in
set_option maxRecDepth 100000 in
theorem down_any (z q : Int) (z0 : 0 ≤ z) (z1 : z < 18446744073709551616) (hq : q = z / 128 + if 9223372036854775808 ≤ z then 18302628885633695744 else 0) : Ct 20 #[.int .u64 z] (.int .u64 q) := by
  refine hide (fun W => ?_)
  by_cases h : 9223372036854775808 ≤ z
  · rw [if_pos h] at hq
    have HQ := hide hq
    clear hq
    go_enter Try.func20, Try.ntmps20
    go_wp2_with fail
    refine (unhide two_63 _).mono ?_
    rintro _ w1 ⟨rfl, hb1⟩
    go_wp2_with fail
    refine (unhide two_56 _).mono ?_
    rintro _ w2 ⟨rfl, hb2⟩
    go_wp2_with fail
    go_ret
    exact ⟨ret1 (by rw [unhide HQ]), bthen hb1 hb2⟩
  · rw [if_neg h] at hq
    have HQ := hide hq
    clear hq
    go_enter Try.func20, Try.ntmps20
    go_wp2_with fail
    refine (unhide two_63 _).mono ?_
    rintro _ w1 ⟨rfl, hb1⟩
    go_wp2_with fail
    go_ret
    exact ⟨ret1 (by rw [unhide HQ]; omega), hb1⟩
set_option maxHeartbeats 1000000 in
set_option maxRecDepth 100000 in
theorem refPutSint_any : ∀ (k : Nat) (s : Int), s.natAbs ≤ k → -9223372036854775808 ≤ s → s < 9223372036854775808 → Puts 15 (s % 18446744073709551616) (putS s) := by
  intro k
  induction k with
  | zero =>
    intro s hk h1 h2
    have h0 : s = 0 := by omega
    subst h0
    refine hide (fun W => ?_)
    rw [putS_last (by omega)]
    rw [show (0 : Int) % 18446744073709551616 = 0 from rfl]
    go_enter Try.func15, Try.ntmps15
    go_wp2_with fail
    exact bodyPost_ret (v := .slice (some ⟨W.heap.size, 0, none⟩) 1 1) (by simp [results, Try.results15, go_sem]) rfl ⟨_, rfl, World.ownsRow_lit (e := 5) (size := 1) W #[.int .u8 0] 1 (Nat.le_refl _) (by decide) rfl, below1 _ _⟩
  | succ k ih =>
    intro s hk h1 h2
    have z0 := Int.emod_nonneg s (show (18446744073709551616 : Int) ≠ 0 by omega)
    have z1 := Int.emod_lt_of_pos s (show (0 : Int) < 18446744073709551616 by omega)
    have HM : Hid (s % 18446744073709551616 % 128 = s % 128) := hide (by omega)
    have HN := hide (mod_of h1 h2)
    by_cases h : -64 ≤ s ∧ s < 64
    · refine hide (fun W => ?_)
      rw [putS_last h]
      by_cases hz : s % 18446744073709551616 < 64
      · generalize s % 18446744073709551616 = z at *
        go_enter Try.func15, Try.ntmps15
        go_wp2_with fail
        rw [unhide HM]
        exact bodyPost_ret (v := .slice (some ⟨W.heap.size, 0, none⟩) 1 1) (by simp [results, Try.results15, go_sem]) rfl ⟨_, rfl, World.ownsRow_lit (e := 5) (size := 1) W #[.int .u8 (s % 128)] 1 (Nat.le_refl _) (by decide) rfl, below1 _ _⟩
      · have hz2 : 18446744073709551552 ≤ s % 18446744073709551616 := by
          have hn := unhide HN
          by_cases h0 : 0 ≤ s
          · rw [if_pos h0] at hn; omega
          · rw [if_neg h0] at hn; omega
        generalize s % 18446744073709551616 = z at *
        go_enter Try.func15, Try.ntmps15
        go_wp2_with fail
        rw [unhide HM]
        exact bodyPost_ret (v := .slice (some ⟨W.heap.size, 0, none⟩) 1 1) (by simp [results, Try.results15, go_sem]) rfl ⟨_, rfl, World.ownsRow_lit (e := 5) (size := 1) W #[.int .u8 (s % 128)] 1 (Nat.le_refl _) (by decide) rfl, below1 _ _⟩
    · have HC := ih (s / 128) (by omega) (by omega) (by omega)
      have HD := down_any (s % 18446744073709551616) (s / 128 % 18446744073709551616) z0 z1 (by
        have hn := unhide HN
        by_cases h0 : 0 ≤ s
        · rw [if_pos h0] at hn; rw [hn, if_neg (by omega)]; omega
        · rw [if_neg h0] at hn; rw [hn, if_pos (by omega)]; omega)
      have hz : ¬ s % 18446744073709551616 < 64 := by
        have hn := unhide HN
        by_cases h0 : 0 ≤ s
        · rw [if_pos h0] at hn; omega
        · rw [if_neg h0] at hn; omega
      have hz2 : ¬ 18446744073709551552 ≤ s % 18446744073709551616 := by
        have hn := unhide HN
        by_cases h0 : 0 ≤ s
        · rw [if_pos h0] at hn; omega
        · rw [if_neg h0] at hn; omega
      have H10 := hide (putS_len 9 (s / 128) (by omega) (by omega))
      refine hide (fun W => ?_)
      rw [putS_more h]
      have hne := putS_ne (s / 128)
      generalize putS (s / 128) = ys at *
      generalize s / 128 % 18446744073709551616 = q at *
      generalize s % 18446744073709551616 = z at *
      clear HN
      go_enter Try.func15, Try.ntmps15
      go_upto_region 5 with (at_builtin; refine wpList_append_own _ rfl _ _ 22 rfl (W.heap.size) 5 _ (.int .u8 0) 1 1 Try.underlying22 iU8 rfl rfl rfl rfl (by decide) _ _ _ rfl (World.ownsRow.alloc (ow_nil W W.heap.size) _) ⟨W.heap.size, 0, none⟩ 1 1 [.int .u8 (128 + z % 128)] rfl rfl (cell_one_new _ _ _) (bys_cell [_]) (by decide) (by decide) (base_le (Nat.le_refl _) _) ?_; intro v' wz hown' hgr _)
      have hr := app_one (d' := 128 + s % 128) (ow_nil W W.heap.size) (Below.refl _ _) (Nat.le_refl _) hown' hgr (by rw [unhide HM])
      have HO := hide hr.1
      have HB := hide hr.2
      clear hown' hgr hr
      obtain ⟨g0, cap0, rfl⟩ := form_one (unhide HO) (by simp)
      go_wp2_with fail
      refine (unhide HD _).mono ?_
      rintro _ w0 ⟨rfl, hb0⟩
      have HO := hide ((unhide HO).below hb0)
      have HB := hide (bthen (unhide HB) hb0)
      clear hb0
      go_wp2_with fail
      refine (unhide HC _).mono ?_
      rintro _ w1 ⟨v1, rfl, hv, hb⟩
      obtain ⟨g, cap, rfl, hg1, hg2, hg3, hg4⟩ := hv.form hne
      have HG := hide (row_cells hg4)
      have HO1 := hide ((unhide HO).below hb)
      have HB1 := hide (bthen (unhide HB) hb)
      have hx := unhide H10
      have HL1 := hide (show 1 + ys.length ≤ maxLen by unfold maxLen; omega)
      have HL2 := hide (show (1 + ys.length) * 1 ≤ 140737488355328 by omega)
      have HL3 := hide (show W.heap.size ≤ w1.heap.size from (unhide HB1).size)
      clear hg1 hg2 hg3 hg4 hv hb hx
      go_wp2_with (at_builtin; refine wpList_append_own _ rfl _ _ 22 rfl (W.heap.size) 5 _ (.int .u8 0) 1 1 Try.underlying22 iU8 rfl rfl rfl rfl (by decide) _ _ _ rfl (unhide HO1) ⟨g, 0, none⟩ ys.length cap (bys ys) rfl (by rw [bys_len, Nat.mul_one]) (unhide HG) (bys_cell _) (unhide HL1) (unhide HL2) (unhide HL3) ?_; intro v2 wy hown2 hgr2 _)
      have hr := app_row (unhide HO1) (unhide HB1) (unhide HL3) hown2 hgr2
      obtain ⟨g2, cap2, rfl⟩ := form_one hr.1 (by simp)
      exact bodyPost_ret (v := .slice (some ⟨g2, 0, none⟩) _ cap2) (by simp [results, Try.results15, go_sem]) rfl ⟨_, rfl, hr.1, hr.2⟩
end Go.Proofs.Ytbmkhhkklglomaa
