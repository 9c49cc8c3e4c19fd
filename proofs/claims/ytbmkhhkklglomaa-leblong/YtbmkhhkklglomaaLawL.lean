/- The law LebLong: its walks. -/
import Derived.Test.YtbmkhhkklglomaaLbV
import Derived.Test.YtbmkhhkklglomaaLbL
namespace Go.Proofs.Ytbmkhhkklglomaa
open Go.RowKit

set_option maxHeartbeats 1000000 in
set_option maxRecDepth 100000 in
theorem long_no {n k bits : Int} (W : World) (n0 : 0 ≤ n) (n1 : n < 18446744073709551616) (h : (k < 0 ∨ 12 < k) ∨ (bits ≠ 32 ∧ bits ≠ 64) ∨ (bits = 32 ∧ 4294967296 ≤ n)) :
    Calls Try.prog 6 #[.int .u64 n, .int .i64 k, .int .i64 bits] W fun r W' => r = .returned (.bool true) ∧ Below W.heap.size W W' := by
  have HA := awake_any
  by_cases h1 : k < 0
  · go_enter Try.func6, Try.ntmps6
    go_wp2_with fail
    refine (unhide HA _).mono ?_
    rintro _ w0 ⟨rfl, hb⟩
    go_wp2_with fail
    go_ret
    exact ⟨rfl, hb⟩
  · by_cases h2 : 12 < k
    · go_enter Try.func6, Try.ntmps6
      go_wp2_with fail
      refine (unhide HA _).mono ?_
      rintro _ w0 ⟨rfl, hb⟩
      go_wp2_with fail
      go_ret
      exact ⟨rfl, hb⟩
    · by_cases h3 : bits = 32
      · subst h3
        have h4 : 4294967296 ≤ n := by omega
        have h5 : (n / 4294967296 != 0) = true := by rw [bne_iff_ne]; omega
        clear h
        go_enter Try.func6, Try.ntmps6
        go_wp2_with fail
        refine (unhide HA _).mono ?_
        rintro _ w0 ⟨rfl, hb⟩
        go_wp2_with fail
        go_ret
        exact ⟨rfl, hb⟩
      · have h4 : ¬ bits = 64 := by omega
        clear h
        go_enter Try.func6, Try.ntmps6
        go_wp2_with fail
        refine (unhide HA _).mono ?_
        rintro _ w0 ⟨rfl, hb⟩
        go_wp2_with fail
        go_ret
        exact ⟨rfl, hb⟩
theorem long_out {z : Int} {n L p : Nat} (hz : z = n) (hp : p + 1 = L) (h1 : z < 18446744073709551616) : outT 0 ((n : Int), L, 0) = .tuple #[.int .u64 z, .int .i64 ((p : Int) + 1), .int .i64 0] := by
  unfold outT
  rw [if_pos rfl, ← hp]
  show Value.tuple #[.int .u64 ((n : Int) % 18446744073709551616), .int .i64 ((0 + (p + 1) : Nat) : Int), .int .i64 0] = _
  rw [← hz, Int.emod_eq_of_lt (by omega) h1, show ((0 + (p + 1) : Nat) : Int) = (p : Int) + 1 by omega]
theorem last_at (f : List Int) (y : Int) : (f ++ [y]).getD f.length 0 = y := by simp [List.getD]
theorem frozen_last {w : World} {B g cap : Nat} {f : List Int} {y : Int} (h : Ow w B (.slice (some ⟨g, 0, none⟩) (f.length + 1) cap) (f ++ [y])) : w.frozen? ⟨g, f.length, none⟩ = false := by
  have h' : w.ownsRow B 5 1 (.slice (some ⟨g, 0, none⟩) (f.length + 1) cap) (f.length + 1) (bys (f ++ [y])) := by
    have := h
    unfold Ow at this
    rw [List.length_append, List.length_singleton] at this
    exact this
  exact World.ownsRow.frozenAt h' f.length
theorem set_last {w : World} {B g cap : Nat} {f : List Int} {y v : Int} (h : Ow w B (.slice (some ⟨g, 0, none⟩) (f.length + 1) cap) (f ++ [y])) : Ow (w.setCell ⟨g, f.length, none⟩ (.int .u8 v)) B (.slice (some ⟨g, 0, none⟩) (f.length + 1) cap) (f ++ [v]) ∧ w.grownBy (w.setCell ⟨g, f.length, none⟩ (.int .u8 v)) (some g) := by
  have h' : w.ownsRow B 5 1 (.slice (some ⟨g, 0, none⟩) (f.length + 1) cap) (f.length + 1) (bys (f ++ [y])) := by
    have := h
    unfold Ow at this
    rw [List.length_append, List.length_singleton] at this
    exact this
  have := World.ownsRow.stored h' f.length (.int .u8 v)
  refine ⟨?_, this.2⟩
  unfold Ow
  rw [List.length_append, List.length_singleton]
  have e : (bys (f ++ [y])).set f.length (.int .u8 v) = bys (f ++ [v]) := by
    rw [bys_app, bys_app, ← bys_len f]
    simp [bys_one]
  rw [← e]
  exact this.1

set_option maxHeartbeats 1000000 in
set_option maxRecDepth 100000 in
theorem long_32 {n k : Nat} {z : Int} {f0 : List Int} {y0 : Int} (W : World) (z0 : 0 ≤ z) (n2 : z < 4294967296) (HZ : Hid (z = n)) (n3 : (z / 4294967296 != 0) = false) (hk : k ≤ 12) (H1 : Puts 12 z (putU n)) (HP : Hid (putU n = f0 ++ [y0])) (HG : Hid (Lg n 32 (putU n).length f0 y0)) (LL : Hid ((putU n).length ≤ 10)) :
    Calls Try.prog 6 #[.int .u64 z, .int .i64 (k : Int), .int .i64 32] W fun r W' => r = .returned (.bool true) ∧ Below W.heap.size W W' := by
  have HA := awake_any
  go_enter Try.func6, Try.ntmps6
  go_wp2_with fail
  refine (unhide HA _).mono ?_
  rintro _ w0 ⟨rfl, hb⟩
  have HB := hide hb
  clear hb
  go_wp2_with fail
  refine (unhide H1 _).mono ?_
  rintro _ w1 ⟨v, rfl, hO, hb⟩
  have HO := hide hO
  have HU := hide hb
  obtain ⟨g0, cap0, rfl⟩ := form_one hO (putU_ne n)
  clear hb hO
  go_wp2_with fail
  go_loopw [7, 39] (fun v7 v39 wr => ∃ (j : Nat) (f : List Int) (y : Int), j ≤ k ∧ v39 = .int .i64 (j : Int) ∧ Ow wr w0.heap.size v7 (f ++ [y]) ∧ Lg n 32 ((putU n).length + j) f y ∧ Below w0.heap.size w0 wr) (fun _ i _ => k - (intOf i).toNat)
  case atStart => exact ⟨0, f0, y0, by omega, rfl, by rw [← unhide HP]; exact unhide HO, unhide HG, unhide HU⟩
  case round =>
    obtain ⟨j, f, y, hj, rfl, hO, hL, hB⟩ := hrel
    have hlen : f.length ≤ 21 := by have := hL.1; have := unhide LL; omega
    have y0 := hL.2.2.1
    have y1 := hL.2.2.2.1
    have HL := hide hL
    have HBr := hide hB
    clear hL hB
    obtain ⟨g, cap, rfl, hg1, hg2, hg3, hg4⟩ := hO.form (by simp)
    rw [List.length_append, List.length_singleton] at *
    by_cases hlt : j < k
    · have hcell := hg4 f.length (by simp)
      rw [last_at] at hcell
      have hfr := frozen_last hO
      have HS := hide (set_last (v := y + 128) hO)
      have HW := hide (u8_or128_right y y0 y1)
      have HL1 := hide (show (f ++ [y + 128]).length + 1 ≤ maxLen by unfold maxLen; rw [List.length_append, List.length_singleton]; omega)
      have HL2 := hide (show ((f ++ [y + 128]).length + 1) * 1 ≤ 140737488355328 by rw [List.length_append, List.length_singleton]; omega)
      have HG1 := hide hg1
      clear hg1 hg2 hg3 hg4 hO
      go_upto_region 9 with fail
      rw [unhide HW]
      have HO2 := hide (unhide HS).1
      have HB2 := hide ((unhide HBr).grown (unhide HS).2 (unhide HBr).size (fun k' hk' => by injection hk' with hk'; rw [← hk']; exact unhide HG1))
      have HL3 := hide (unhide HB2).size
      clear HS hcell hfr HW
      generalize wr.setCell ⟨g, f.length, none⟩ (.int .u8 (y + 128)) = wq at *
      go_wp2_with (at_builtin; refine wpList_append_own _ rfl _ _ 22 rfl (w0.heap.size) 5 _ (.int .u8 0) 1 1 Try.underlying22 iU8 rfl rfl rfl rfl (by decide) _ _ _ rfl (World.ownsRow.alloc (unhide HO2) _) ⟨_, 0, none⟩ 1 1 [.int .u8 0] rfl rfl (cell_one_new _ _ _) (bys_cell [_]) (unhide HL1) (unhide HL2) (base_le (unhide HL3) _) ?_; intro v' wz hown' hgr _)
      have hr := app_one (unhide HO2) (unhide HB2) (unhide HL3) hown' hgr rfl
      exact ⟨⟨j + 1, f ++ [y + 128], 0, by omega, by go_num, hr.1, (unhide HL).step, hr.2⟩, by simp [intOf]; omega⟩
    · have hjk : j = k := by omega
      subst hjk
      have HS := hide (Ow.sl (w := wr) (B := w0.heap.size) (xs := f ++ [y]) (cap := cap) (g := g) (by rw [List.length_append, List.length_singleton]; exact hO) (by simp) (by rw [List.length_append, List.length_singleton]; omega))
      have HC := hide (uint_any (k := 0) (bits := 32) (hide (unhide HL).byt) HS (by omega) (by omega) (by omega))
      rw [List.length_append, List.length_singleton, List.drop_zero] at HC
      clear hg1 hg2 hg3 hg4 hO
      by_cases hM : f.length + 1 ≤ 5
      · have e := (unhide HL).2.2.2.2 (by have := (unhide HL).1; omega)
        rw [e, show outT 0 ((n : Int), (putU n).length + j, 0) = .tuple #[.int .u64 z, .int .i64 ((f.length : Int) + 1), .int .i64 0] from long_out (unhide HZ) (unhide HL).1 (by omega)] at HC
        clear e
        go_wp2_with fail
        refine (unhide HC).mono ?_
        rintro _ w2 ⟨rfl, hb2⟩
        have HB := hide (bthen (unhide HB) (bthen (unhide HBr) hb2))
        clear hb2
        go_wp2_with fail
        go_ret
        exact ⟨by first | rfl | simp, unhide HB⟩
      · rw [(unhide HL).too (by omega) (by have := (unhide HL).1; omega), show outT 0 (0, 0, 101) = .tuple #[.int .u64 0, .int .i64 0, .int .i64 101] from rfl] at HC
        go_wp2_with fail
        refine (unhide HC).mono ?_
        rintro _ w2 ⟨rfl, hb2⟩
        have HB := hide (bthen (unhide HB) (bthen (unhide HBr) hb2))
        clear hb2
        go_wp2_with fail
        go_ret
        exact ⟨by first | rfl | simp, unhide HB⟩

set_option maxHeartbeats 1000000 in
set_option maxRecDepth 100000 in
theorem long_64 {n k : Nat} {z : Int} {f0 : List Int} {y0 : Int} (W : World) (n2 : z < 18446744073709551616) (HZ : Hid (z = n)) (hk : k ≤ 12) (H1 : Puts 12 z (putU n)) (HP : Hid (putU n = f0 ++ [y0])) (HG : Hid (Lg n 64 (putU n).length f0 y0)) (LL : Hid ((putU n).length ≤ 10)) :
    Calls Try.prog 6 #[.int .u64 z, .int .i64 (k : Int), .int .i64 64] W fun r W' => r = .returned (.bool true) ∧ Below W.heap.size W W' := by
  have HA := awake_any
  go_enter Try.func6, Try.ntmps6
  go_wp2_with fail
  refine (unhide HA _).mono ?_
  rintro _ w0 ⟨rfl, hb⟩
  have HB := hide hb
  clear hb
  go_wp2_with fail
  refine (unhide H1 _).mono ?_
  rintro _ w1 ⟨v, rfl, hO, hb⟩
  have HO := hide hO
  have HU := hide hb
  obtain ⟨g0, cap0, rfl⟩ := form_one hO (putU_ne n)
  clear hb hO
  go_wp2_with fail
  go_loopw [7, 39] (fun v7 v39 wr => ∃ (j : Nat) (f : List Int) (y : Int), j ≤ k ∧ v39 = .int .i64 (j : Int) ∧ Ow wr w0.heap.size v7 (f ++ [y]) ∧ Lg n 64 ((putU n).length + j) f y ∧ Below w0.heap.size w0 wr) (fun _ i _ => k - (intOf i).toNat)
  case atStart => exact ⟨0, f0, y0, by omega, rfl, by rw [← unhide HP]; exact unhide HO, unhide HG, unhide HU⟩
  case round =>
    obtain ⟨j, f, y, hj, rfl, hO, hL, hB⟩ := hrel
    have hlen : f.length ≤ 21 := by have := hL.1; have := unhide LL; omega
    have y0 := hL.2.2.1
    have y1 := hL.2.2.2.1
    have HL := hide hL
    have HBr := hide hB
    clear hL hB
    obtain ⟨g, cap, rfl, hg1, hg2, hg3, hg4⟩ := hO.form (by simp)
    rw [List.length_append, List.length_singleton] at *
    by_cases hlt : j < k
    · have hcell := hg4 f.length (by simp)
      rw [last_at] at hcell
      have hfr := frozen_last hO
      have HS := hide (set_last (v := y + 128) hO)
      have HW := hide (u8_or128_right y y0 y1)
      have HL1 := hide (show (f ++ [y + 128]).length + 1 ≤ maxLen by unfold maxLen; rw [List.length_append, List.length_singleton]; omega)
      have HL2 := hide (show ((f ++ [y + 128]).length + 1) * 1 ≤ 140737488355328 by rw [List.length_append, List.length_singleton]; omega)
      have HG1 := hide hg1
      clear hg1 hg2 hg3 hg4 hO
      go_upto_region 9 with fail
      rw [unhide HW]
      have HO2 := hide (unhide HS).1
      have HB2 := hide ((unhide HBr).grown (unhide HS).2 (unhide HBr).size (fun k' hk' => by injection hk' with hk'; rw [← hk']; exact unhide HG1))
      have HL3 := hide (unhide HB2).size
      clear HS hcell hfr HW
      generalize wr.setCell ⟨g, f.length, none⟩ (.int .u8 (y + 128)) = wq at *
      go_wp2_with (at_builtin; refine wpList_append_own _ rfl _ _ 22 rfl (w0.heap.size) 5 _ (.int .u8 0) 1 1 Try.underlying22 iU8 rfl rfl rfl rfl (by decide) _ _ _ rfl (World.ownsRow.alloc (unhide HO2) _) ⟨_, 0, none⟩ 1 1 [.int .u8 0] rfl rfl (cell_one_new _ _ _) (bys_cell [_]) (unhide HL1) (unhide HL2) (base_le (unhide HL3) _) ?_; intro v' wz hown' hgr _)
      have hr := app_one (unhide HO2) (unhide HB2) (unhide HL3) hown' hgr rfl
      exact ⟨⟨j + 1, f ++ [y + 128], 0, by omega, by go_num, hr.1, (unhide HL).step, hr.2⟩, by simp [intOf]; omega⟩
    · have hjk : j = k := by omega
      subst hjk
      have HS := hide (Ow.sl (w := wr) (B := w0.heap.size) (xs := f ++ [y]) (cap := cap) (g := g) (by rw [List.length_append, List.length_singleton]; exact hO) (by simp) (by rw [List.length_append, List.length_singleton]; omega))
      have HC := hide (uint_any (k := 0) (bits := 64) (hide (unhide HL).byt) HS (by omega) (by omega) (by omega))
      rw [List.length_append, List.length_singleton, List.drop_zero] at HC
      clear hg1 hg2 hg3 hg4 hO
      by_cases hM : f.length + 1 ≤ 10
      · have e := (unhide HL).2.2.2.2 (by have := (unhide HL).1; omega)
        rw [e, show outT 0 ((n : Int), (putU n).length + j, 0) = .tuple #[.int .u64 z, .int .i64 ((f.length : Int) + 1), .int .i64 0] from long_out (unhide HZ) (unhide HL).1 (by omega)] at HC
        clear e
        go_wp2_with fail
        refine (unhide HC).mono ?_
        rintro _ w2 ⟨rfl, hb2⟩
        have HB := hide (bthen (unhide HB) (bthen (unhide HBr) hb2))
        clear hb2
        go_wp2_with fail
        go_ret
        exact ⟨by first | rfl | simp, unhide HB⟩
      · rw [(unhide HL).too (by omega) (by have := (unhide HL).1; omega), show outT 0 (0, 0, 101) = .tuple #[.int .u64 0, .int .i64 0, .int .i64 101] from rfl] at HC
        go_wp2_with fail
        refine (unhide HC).mono ?_
        rintro _ w2 ⟨rfl, hb2⟩
        have HB := hide (bthen (unhide HB) (bthen (unhide HBr) hb2))
        clear hb2
        go_wp2_with fail
        go_ret
        exact ⟨by first | rfl | simp, unhide HB⟩
end Go.Proofs.Ytbmkhhkklglomaa
