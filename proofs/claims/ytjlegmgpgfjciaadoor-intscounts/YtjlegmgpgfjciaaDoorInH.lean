/- The reference's Extend: the walk. -/
import Derived.Test.YtjlegmgpgfjciaaDoorInL
import Derived.Test.YtjlegmgpgfjciaaDoorInD
namespace Go.Proofs.YtjlegmgpgfjciaaDoor
open Go.RowKit

/-- The bits of a number made one of more. -/
def extG (A f : Nat) (sg : Bool) (i : Nat) : Bool := if i < f then A.testBit i else (sg && A.testBit (f - 1))
theorem bvals_ext (A f : Nat) (sg : Bool) : bvals A.testBit f = bvals (extG A f sg) f := by
  unfold bvals
  refine List.map_congr_left fun i hi => ?_
  have : i < f := List.mem_range.1 hi
  unfold extG
  rw [if_pos this]
theorem all_bool (g : Nat → Bool) (n : Nat) : ∀ u ∈ bvals g n, u.oneCell' = true := by
  intro u hu
  unfold bvals at hu
  rw [List.mem_map] at hu
  obtain ⟨i, -, rfl⟩ := hu
  rfl
theorem bvals_cell {w : World} {b f : Nat} {g : Nat → Bool} (h : ∀ i, i < f → w.cell? ⟨b, i, none⟩ = some (.bool (g i))) : ∀ j u, (bvals g f)[j]? = some u → w.cell? ((⟨b, 0, none⟩ : Addr).add j) = some u := by
  intro j u hj
  unfold bvals at hj
  rw [List.getElem?_map] at hj
  by_cases hlt : j < f
  · rw [List.getElem?_range hlt] at hj
    have := h j hlt
    simp at hj
    subst hj
    cases j with
    | zero => simpa [Addr.add] using this
    | succ j => simpa [Addr.add] using this
  · rw [List.getElem?_eq_none (by simpa using hlt)] at hj
    simp at hj
set_option maxHeartbeats 4000000 in
set_option maxRecDepth 100000 in
theorem rext_no {w f a : Int} {s : Bool} (h1 : (f != 8) = true) (h2 : (f != 16) = true) (h3 : (f != 32) = true) (h4 : (f != 64) = true) : Ct 16 #[.int .i64 w, .int .i64 f, .int .u64 a, .bool s] (.int .u64 0) := by
  refine hide (fun W => ?_)
  have HB := hide (Below.refl W.heap.size W)
  go_enter Tryd.func16, Tryd.ntmps16
  go_wp2_with fail
  go_ret
  exact ⟨rfl, unhide HB⟩
set_option maxHeartbeats 4000000 in
set_option maxRecDepth 100000 in
theorem rext_gt8 {w a : Int} {s : Bool} (g : w < 8) : Ct 16 #[.int .i64 w, .int .i64 8, .int .u64 a, .bool s] (.int .u64 0) := by
  refine hide (fun W => ?_)
  have HB := hide (Below.refl W.heap.size W)
  go_enter Tryd.func16, Tryd.ntmps16
  go_wp2_with fail
  go_ret
  exact ⟨rfl, unhide HB⟩
set_option maxHeartbeats 4000000 in
set_option maxRecDepth 100000 in
theorem rext_gt16 {w a : Int} {s : Bool} (g : w < 16) : Ct 16 #[.int .i64 w, .int .i64 16, .int .u64 a, .bool s] (.int .u64 0) := by
  refine hide (fun W => ?_)
  have HB := hide (Below.refl W.heap.size W)
  go_enter Tryd.func16, Tryd.ntmps16
  go_wp2_with fail
  go_ret
  exact ⟨rfl, unhide HB⟩
set_option maxHeartbeats 4000000 in
set_option maxRecDepth 100000 in
theorem rext_gt32 {w a : Int} {s : Bool} (g : w < 32) : Ct 16 #[.int .i64 w, .int .i64 32, .int .u64 a, .bool s] (.int .u64 0) := by
  refine hide (fun W => ?_)
  have HB := hide (Below.refl W.heap.size W)
  go_enter Tryd.func16, Tryd.ntmps16
  go_wp2_with fail
  go_ret
  exact ⟨rfl, unhide HB⟩
set_option maxHeartbeats 4000000 in
set_option maxRecDepth 100000 in
theorem rext_gt64 {w a : Int} {s : Bool} (g : w < 64) : Ct 16 #[.int .i64 w, .int .i64 64, .int .u64 a, .bool s] (.int .u64 0) := by
  refine hide (fun W => ?_)
  have HB := hide (Below.refl W.heap.size W)
  go_enter Tryd.func16, Tryd.ntmps16
  go_wp2_with fail
  go_ret
  exact ⟨rfl, unhide HB⟩
set_option maxHeartbeats 4000000 in
set_option maxRecDepth 100000 in
theorem rext_8t {a : Int} {n A : Nat} (hn : n ≤ 64) (g : 8 ≤ n) (HL : Hid (∀ W, Calls Tryd.prog 34 #[.int .i64 64, .int .u64 a] W fun e w' => ∃ s, e = .returned s ∧ HoldsB w' s A.testBit 64 ∧ Below W.heap.size W w'))
    (HF : Hid (∀ s W, HoldsB W s (extG A 8 true) n → Calls Tryd.prog 36 #[s] W fun e w' => e = .returned (.int .u64 ((num (extG A 8 true) n : Nat) : Int)) ∧ Below W.heap.size W w')) :
    Ct 16 #[.int .i64 (n : Int), .int .i64 8, .int .u64 a, .bool true] (.int .u64 (num (extG A 8 true) n : Nat)) := by
  refine hide (fun W => ?_)
  have gi : (8 : Int) ≤ n := by omega
  go_enter Tryd.func16, Tryd.ntmps16
  go_wp2_with fail
  refine (unhide HL _).mono ?_
  rintro _ w1 ⟨s1, rfl, hH, hb⟩
  have HW := hide hb
  obtain ⟨b, c, rfl, h2, h3, h4⟩ := hH
  have H4 := hide h4
  clear hb h4
  have hcc : 8 ≤ c := by omega
  go_wp2_with (at_builtin; refine wpList_append_own _ rfl _ _ 44 rfl (w1.heap.size) 4 _ (.bool false) 1 1 Tryd.underlying44 iB rfl rfl rfl rfl (by decide) _ _ _ rfl (World.ownsRow_nil _ _ _ _) ⟨b, 0, none⟩ 8 c (bvals A.testBit 8) rfl (by rw [bvals_len]) (bvals_cell (fun i hi => unhide H4 i (by omega))) (all_bool _ _) (by unfold maxLen; omega) (by omega) (Nat.le_refl _) ?_; intro v1 w2 hown1 hgr1 _)
  have HO1 : Hid (w2.ownsRow w1.heap.size 4 1 v1 8 (bvals (extG A 8 true) 8)) := hide (by
    rw [← bvals_ext]
    simpa using hown1)
  have HB1 : Hid (Below w1.heap.size w1 w2) := hide ((Below.refl _ _).grown hgr1 (Nat.le_refl _) (fun k hk => by cases hk))
  clear hown1 hgr1
  (try go_wp2_with fail)
  go_loopw [10, 11] (fun v5 v6 wr => ∃ i : Nat, 8 ≤ i ∧ i ≤ n ∧ v6 = .int .i64 (i : Int) ∧ wr.ownsRow w1.heap.size 4 1 v5 i (bvals (extG A 8 true) i) ∧ Below w1.heap.size w1 wr) (fun _ i _ => n - (intOf i).toNat)
  case atStart => exact ⟨8, by omega, g, rfl, unhide HO1, unhide HB1⟩
  case round =>
    obtain ⟨i, hi0, hi, rfl, hown, hB⟩ := hrel
    have HO := hide hown; have HB := hide hB
    have HL1 := hide (show i + 1 ≤ maxLen by unfold maxLen; omega)
    have HL2 := hide (show (i + 1) * 1 ≤ 140737488355328 by omega)
    have HL3 := hide (show w1.heap.size ≤ wr.heap.size from hB.size)
    have H4r : Hid (∀ i, i < 64 → wr.cell? ⟨b, i, none⟩ = some (.bool (A.testBit i))) := hide (fun i hi => keep1 hB h2 (unhide H4 i hi))
    clear hown hB
    by_cases hc : i < n
    · skip
      have hcl := unhide H4r 7 (by omega)
      have HE : Hid (A.testBit 7 = extG A 8 true i) := hide (by unfold extG; rw [if_neg (by omega)]; rfl)
      generalize A.testBit 7 = e at *
      go_wp2_with (at_builtin; refine wpList_append_own _ rfl _ _ 44 rfl (w1.heap.size) 4 _ (.bool false) 1 1 Tryd.underlying44 iB rfl rfl rfl rfl (by decide) _ _ _ rfl ((unhide HO).alloc _) ⟨wr.heap.size, 0, none⟩ 1 1 [.bool e] rfl rfl (cell_one_new _ _ _) (one_bool _) (unhide HL1) (unhide HL2) (base_le (unhide HL3) _) ?_; intro v' wz hown' hgr _)
      have hr := append_bit (unhide HO) (unhide HB) (unhide HL3) hown' hgr (unhide HE)
      exact ⟨⟨i + 1, by omega, by omega, by go_num, hr.1, hr.2⟩, by simp [intOf]; omega⟩
    · have hin : i = n := by omega
      subst hin
      have hH := hide (holds_own (unhide HO) (by omega))
      go_wp2_with fail
      refine (unhide HF _ _ (unhide hH)).mono ?_
      rintro _ w3 ⟨rfl, hb⟩
      have HB := hide (bthen (bthen (unhide HW) (unhide HB)) hb)
      clear hb
      go_wp2_with fail
      go_ret
      exact ⟨rfl, unhide HB⟩
set_option maxHeartbeats 4000000 in
set_option maxRecDepth 100000 in
theorem rext_8f {a : Int} {n A : Nat} (hn : n ≤ 64) (g : 8 ≤ n) (HL : Hid (∀ W, Calls Tryd.prog 34 #[.int .i64 64, .int .u64 a] W fun e w' => ∃ s, e = .returned s ∧ HoldsB w' s A.testBit 64 ∧ Below W.heap.size W w'))
    (HF : Hid (∀ s W, HoldsB W s (extG A 8 false) n → Calls Tryd.prog 36 #[s] W fun e w' => e = .returned (.int .u64 ((num (extG A 8 false) n : Nat) : Int)) ∧ Below W.heap.size W w')) :
    Ct 16 #[.int .i64 (n : Int), .int .i64 8, .int .u64 a, .bool false] (.int .u64 (num (extG A 8 false) n : Nat)) := by
  refine hide (fun W => ?_)
  have gi : (8 : Int) ≤ n := by omega
  go_enter Tryd.func16, Tryd.ntmps16
  go_wp2_with fail
  refine (unhide HL _).mono ?_
  rintro _ w1 ⟨s1, rfl, hH, hb⟩
  have HW := hide hb
  obtain ⟨b, c, rfl, h2, h3, h4⟩ := hH
  have H4 := hide h4
  clear hb h4
  have hcc : 8 ≤ c := by omega
  go_wp2_with (at_builtin; refine wpList_append_own _ rfl _ _ 44 rfl (w1.heap.size) 4 _ (.bool false) 1 1 Tryd.underlying44 iB rfl rfl rfl rfl (by decide) _ _ _ rfl (World.ownsRow_nil _ _ _ _) ⟨b, 0, none⟩ 8 c (bvals A.testBit 8) rfl (by rw [bvals_len]) (bvals_cell (fun i hi => unhide H4 i (by omega))) (all_bool _ _) (by unfold maxLen; omega) (by omega) (Nat.le_refl _) ?_; intro v1 w2 hown1 hgr1 _)
  have HO1 : Hid (w2.ownsRow w1.heap.size 4 1 v1 8 (bvals (extG A 8 false) 8)) := hide (by
    rw [← bvals_ext]
    simpa using hown1)
  have HB1 : Hid (Below w1.heap.size w1 w2) := hide ((Below.refl _ _).grown hgr1 (Nat.le_refl _) (fun k hk => by cases hk))
  clear hown1 hgr1
  (try go_wp2_with fail)
  go_loopw [10, 11] (fun v5 v6 wr => ∃ i : Nat, 8 ≤ i ∧ i ≤ n ∧ v6 = .int .i64 (i : Int) ∧ wr.ownsRow w1.heap.size 4 1 v5 i (bvals (extG A 8 false) i) ∧ Below w1.heap.size w1 wr) (fun _ i _ => n - (intOf i).toNat)
  case atStart => exact ⟨8, by omega, g, rfl, unhide HO1, unhide HB1⟩
  case round =>
    obtain ⟨i, hi0, hi, rfl, hown, hB⟩ := hrel
    have HO := hide hown; have HB := hide hB
    have HL1 := hide (show i + 1 ≤ maxLen by unfold maxLen; omega)
    have HL2 := hide (show (i + 1) * 1 ≤ 140737488355328 by omega)
    have HL3 := hide (show w1.heap.size ≤ wr.heap.size from hB.size)
    have H4r : Hid (∀ i, i < 64 → wr.cell? ⟨b, i, none⟩ = some (.bool (A.testBit i))) := hide (fun i hi => keep1 hB h2 (unhide H4 i hi))
    clear hown hB
    by_cases hc : i < n
    · skip
      have HE : Hid (false = extG A 8 false i) := hide (by unfold extG; rw [if_neg (by omega)]; rfl)
      go_wp2_with (at_builtin; refine wpList_append_own _ rfl _ _ 44 rfl (w1.heap.size) 4 _ (.bool false) 1 1 Tryd.underlying44 iB rfl rfl rfl rfl (by decide) _ _ _ rfl ((unhide HO).alloc _) ⟨wr.heap.size, 0, none⟩ 1 1 [.bool false] rfl rfl (cell_one_new _ _ _) (one_bool _) (unhide HL1) (unhide HL2) (base_le (unhide HL3) _) ?_; intro v' wz hown' hgr _)
      have hr := append_bit (unhide HO) (unhide HB) (unhide HL3) hown' hgr (unhide HE)
      exact ⟨⟨i + 1, by omega, by omega, by go_num, hr.1, hr.2⟩, by simp [intOf]; omega⟩
    · have hin : i = n := by omega
      subst hin
      have hH := hide (holds_own (unhide HO) (by omega))
      go_wp2_with fail
      refine (unhide HF _ _ (unhide hH)).mono ?_
      rintro _ w3 ⟨rfl, hb⟩
      have HB := hide (bthen (bthen (unhide HW) (unhide HB)) hb)
      clear hb
      go_wp2_with fail
      go_ret
      exact ⟨rfl, unhide HB⟩
set_option maxHeartbeats 4000000 in
set_option maxRecDepth 100000 in
theorem rext_16t {a : Int} {n A : Nat} (hn : n ≤ 64) (g : 16 ≤ n) (HL : Hid (∀ W, Calls Tryd.prog 34 #[.int .i64 64, .int .u64 a] W fun e w' => ∃ s, e = .returned s ∧ HoldsB w' s A.testBit 64 ∧ Below W.heap.size W w'))
    (HF : Hid (∀ s W, HoldsB W s (extG A 16 true) n → Calls Tryd.prog 36 #[s] W fun e w' => e = .returned (.int .u64 ((num (extG A 16 true) n : Nat) : Int)) ∧ Below W.heap.size W w')) :
    Ct 16 #[.int .i64 (n : Int), .int .i64 16, .int .u64 a, .bool true] (.int .u64 (num (extG A 16 true) n : Nat)) := by
  refine hide (fun W => ?_)
  have gi : (16 : Int) ≤ n := by omega
  go_enter Tryd.func16, Tryd.ntmps16
  go_wp2_with fail
  refine (unhide HL _).mono ?_
  rintro _ w1 ⟨s1, rfl, hH, hb⟩
  have HW := hide hb
  obtain ⟨b, c, rfl, h2, h3, h4⟩ := hH
  have H4 := hide h4
  clear hb h4
  have hcc : 16 ≤ c := by omega
  go_wp2_with (at_builtin; refine wpList_append_own _ rfl _ _ 44 rfl (w1.heap.size) 4 _ (.bool false) 1 1 Tryd.underlying44 iB rfl rfl rfl rfl (by decide) _ _ _ rfl (World.ownsRow_nil _ _ _ _) ⟨b, 0, none⟩ 16 c (bvals A.testBit 16) rfl (by rw [bvals_len]) (bvals_cell (fun i hi => unhide H4 i (by omega))) (all_bool _ _) (by unfold maxLen; omega) (by omega) (Nat.le_refl _) ?_; intro v1 w2 hown1 hgr1 _)
  have HO1 : Hid (w2.ownsRow w1.heap.size 4 1 v1 16 (bvals (extG A 16 true) 16)) := hide (by
    rw [← bvals_ext]
    simpa using hown1)
  have HB1 : Hid (Below w1.heap.size w1 w2) := hide ((Below.refl _ _).grown hgr1 (Nat.le_refl _) (fun k hk => by cases hk))
  clear hown1 hgr1
  (try go_wp2_with fail)
  go_loopw [10, 11] (fun v5 v6 wr => ∃ i : Nat, 16 ≤ i ∧ i ≤ n ∧ v6 = .int .i64 (i : Int) ∧ wr.ownsRow w1.heap.size 4 1 v5 i (bvals (extG A 16 true) i) ∧ Below w1.heap.size w1 wr) (fun _ i _ => n - (intOf i).toNat)
  case atStart => exact ⟨16, by omega, g, rfl, unhide HO1, unhide HB1⟩
  case round =>
    obtain ⟨i, hi0, hi, rfl, hown, hB⟩ := hrel
    have HO := hide hown; have HB := hide hB
    have HL1 := hide (show i + 1 ≤ maxLen by unfold maxLen; omega)
    have HL2 := hide (show (i + 1) * 1 ≤ 140737488355328 by omega)
    have HL3 := hide (show w1.heap.size ≤ wr.heap.size from hB.size)
    have H4r : Hid (∀ i, i < 64 → wr.cell? ⟨b, i, none⟩ = some (.bool (A.testBit i))) := hide (fun i hi => keep1 hB h2 (unhide H4 i hi))
    clear hown hB
    by_cases hc : i < n
    · skip
      have hcl := unhide H4r 15 (by omega)
      have HE : Hid (A.testBit 15 = extG A 16 true i) := hide (by unfold extG; rw [if_neg (by omega)]; rfl)
      generalize A.testBit 15 = e at *
      go_wp2_with (at_builtin; refine wpList_append_own _ rfl _ _ 44 rfl (w1.heap.size) 4 _ (.bool false) 1 1 Tryd.underlying44 iB rfl rfl rfl rfl (by decide) _ _ _ rfl ((unhide HO).alloc _) ⟨wr.heap.size, 0, none⟩ 1 1 [.bool e] rfl rfl (cell_one_new _ _ _) (one_bool _) (unhide HL1) (unhide HL2) (base_le (unhide HL3) _) ?_; intro v' wz hown' hgr _)
      have hr := append_bit (unhide HO) (unhide HB) (unhide HL3) hown' hgr (unhide HE)
      exact ⟨⟨i + 1, by omega, by omega, by go_num, hr.1, hr.2⟩, by simp [intOf]; omega⟩
    · have hin : i = n := by omega
      subst hin
      have hH := hide (holds_own (unhide HO) (by omega))
      go_wp2_with fail
      refine (unhide HF _ _ (unhide hH)).mono ?_
      rintro _ w3 ⟨rfl, hb⟩
      have HB := hide (bthen (bthen (unhide HW) (unhide HB)) hb)
      clear hb
      go_wp2_with fail
      go_ret
      exact ⟨rfl, unhide HB⟩
set_option maxHeartbeats 4000000 in
set_option maxRecDepth 100000 in
theorem rext_16f {a : Int} {n A : Nat} (hn : n ≤ 64) (g : 16 ≤ n) (HL : Hid (∀ W, Calls Tryd.prog 34 #[.int .i64 64, .int .u64 a] W fun e w' => ∃ s, e = .returned s ∧ HoldsB w' s A.testBit 64 ∧ Below W.heap.size W w'))
    (HF : Hid (∀ s W, HoldsB W s (extG A 16 false) n → Calls Tryd.prog 36 #[s] W fun e w' => e = .returned (.int .u64 ((num (extG A 16 false) n : Nat) : Int)) ∧ Below W.heap.size W w')) :
    Ct 16 #[.int .i64 (n : Int), .int .i64 16, .int .u64 a, .bool false] (.int .u64 (num (extG A 16 false) n : Nat)) := by
  refine hide (fun W => ?_)
  have gi : (16 : Int) ≤ n := by omega
  go_enter Tryd.func16, Tryd.ntmps16
  go_wp2_with fail
  refine (unhide HL _).mono ?_
  rintro _ w1 ⟨s1, rfl, hH, hb⟩
  have HW := hide hb
  obtain ⟨b, c, rfl, h2, h3, h4⟩ := hH
  have H4 := hide h4
  clear hb h4
  have hcc : 16 ≤ c := by omega
  go_wp2_with (at_builtin; refine wpList_append_own _ rfl _ _ 44 rfl (w1.heap.size) 4 _ (.bool false) 1 1 Tryd.underlying44 iB rfl rfl rfl rfl (by decide) _ _ _ rfl (World.ownsRow_nil _ _ _ _) ⟨b, 0, none⟩ 16 c (bvals A.testBit 16) rfl (by rw [bvals_len]) (bvals_cell (fun i hi => unhide H4 i (by omega))) (all_bool _ _) (by unfold maxLen; omega) (by omega) (Nat.le_refl _) ?_; intro v1 w2 hown1 hgr1 _)
  have HO1 : Hid (w2.ownsRow w1.heap.size 4 1 v1 16 (bvals (extG A 16 false) 16)) := hide (by
    rw [← bvals_ext]
    simpa using hown1)
  have HB1 : Hid (Below w1.heap.size w1 w2) := hide ((Below.refl _ _).grown hgr1 (Nat.le_refl _) (fun k hk => by cases hk))
  clear hown1 hgr1
  (try go_wp2_with fail)
  go_loopw [10, 11] (fun v5 v6 wr => ∃ i : Nat, 16 ≤ i ∧ i ≤ n ∧ v6 = .int .i64 (i : Int) ∧ wr.ownsRow w1.heap.size 4 1 v5 i (bvals (extG A 16 false) i) ∧ Below w1.heap.size w1 wr) (fun _ i _ => n - (intOf i).toNat)
  case atStart => exact ⟨16, by omega, g, rfl, unhide HO1, unhide HB1⟩
  case round =>
    obtain ⟨i, hi0, hi, rfl, hown, hB⟩ := hrel
    have HO := hide hown; have HB := hide hB
    have HL1 := hide (show i + 1 ≤ maxLen by unfold maxLen; omega)
    have HL2 := hide (show (i + 1) * 1 ≤ 140737488355328 by omega)
    have HL3 := hide (show w1.heap.size ≤ wr.heap.size from hB.size)
    have H4r : Hid (∀ i, i < 64 → wr.cell? ⟨b, i, none⟩ = some (.bool (A.testBit i))) := hide (fun i hi => keep1 hB h2 (unhide H4 i hi))
    clear hown hB
    by_cases hc : i < n
    · skip
      have HE : Hid (false = extG A 16 false i) := hide (by unfold extG; rw [if_neg (by omega)]; rfl)
      go_wp2_with (at_builtin; refine wpList_append_own _ rfl _ _ 44 rfl (w1.heap.size) 4 _ (.bool false) 1 1 Tryd.underlying44 iB rfl rfl rfl rfl (by decide) _ _ _ rfl ((unhide HO).alloc _) ⟨wr.heap.size, 0, none⟩ 1 1 [.bool false] rfl rfl (cell_one_new _ _ _) (one_bool _) (unhide HL1) (unhide HL2) (base_le (unhide HL3) _) ?_; intro v' wz hown' hgr _)
      have hr := append_bit (unhide HO) (unhide HB) (unhide HL3) hown' hgr (unhide HE)
      exact ⟨⟨i + 1, by omega, by omega, by go_num, hr.1, hr.2⟩, by simp [intOf]; omega⟩
    · have hin : i = n := by omega
      subst hin
      have hH := hide (holds_own (unhide HO) (by omega))
      go_wp2_with fail
      refine (unhide HF _ _ (unhide hH)).mono ?_
      rintro _ w3 ⟨rfl, hb⟩
      have HB := hide (bthen (bthen (unhide HW) (unhide HB)) hb)
      clear hb
      go_wp2_with fail
      go_ret
      exact ⟨rfl, unhide HB⟩
set_option maxHeartbeats 4000000 in
set_option maxRecDepth 100000 in
theorem rext_32t {a : Int} {n A : Nat} (hn : n ≤ 64) (g : 32 ≤ n) (HL : Hid (∀ W, Calls Tryd.prog 34 #[.int .i64 64, .int .u64 a] W fun e w' => ∃ s, e = .returned s ∧ HoldsB w' s A.testBit 64 ∧ Below W.heap.size W w'))
    (HF : Hid (∀ s W, HoldsB W s (extG A 32 true) n → Calls Tryd.prog 36 #[s] W fun e w' => e = .returned (.int .u64 ((num (extG A 32 true) n : Nat) : Int)) ∧ Below W.heap.size W w')) :
    Ct 16 #[.int .i64 (n : Int), .int .i64 32, .int .u64 a, .bool true] (.int .u64 (num (extG A 32 true) n : Nat)) := by
  refine hide (fun W => ?_)
  have gi : (32 : Int) ≤ n := by omega
  go_enter Tryd.func16, Tryd.ntmps16
  go_wp2_with fail
  refine (unhide HL _).mono ?_
  rintro _ w1 ⟨s1, rfl, hH, hb⟩
  have HW := hide hb
  obtain ⟨b, c, rfl, h2, h3, h4⟩ := hH
  have H4 := hide h4
  clear hb h4
  have hcc : 32 ≤ c := by omega
  go_wp2_with (at_builtin; refine wpList_append_own _ rfl _ _ 44 rfl (w1.heap.size) 4 _ (.bool false) 1 1 Tryd.underlying44 iB rfl rfl rfl rfl (by decide) _ _ _ rfl (World.ownsRow_nil _ _ _ _) ⟨b, 0, none⟩ 32 c (bvals A.testBit 32) rfl (by rw [bvals_len]) (bvals_cell (fun i hi => unhide H4 i (by omega))) (all_bool _ _) (by unfold maxLen; omega) (by omega) (Nat.le_refl _) ?_; intro v1 w2 hown1 hgr1 _)
  have HO1 : Hid (w2.ownsRow w1.heap.size 4 1 v1 32 (bvals (extG A 32 true) 32)) := hide (by
    rw [← bvals_ext]
    simpa using hown1)
  have HB1 : Hid (Below w1.heap.size w1 w2) := hide ((Below.refl _ _).grown hgr1 (Nat.le_refl _) (fun k hk => by cases hk))
  clear hown1 hgr1
  (try go_wp2_with fail)
  go_loopw [10, 11] (fun v5 v6 wr => ∃ i : Nat, 32 ≤ i ∧ i ≤ n ∧ v6 = .int .i64 (i : Int) ∧ wr.ownsRow w1.heap.size 4 1 v5 i (bvals (extG A 32 true) i) ∧ Below w1.heap.size w1 wr) (fun _ i _ => n - (intOf i).toNat)
  case atStart => exact ⟨32, by omega, g, rfl, unhide HO1, unhide HB1⟩
  case round =>
    obtain ⟨i, hi0, hi, rfl, hown, hB⟩ := hrel
    have HO := hide hown; have HB := hide hB
    have HL1 := hide (show i + 1 ≤ maxLen by unfold maxLen; omega)
    have HL2 := hide (show (i + 1) * 1 ≤ 140737488355328 by omega)
    have HL3 := hide (show w1.heap.size ≤ wr.heap.size from hB.size)
    have H4r : Hid (∀ i, i < 64 → wr.cell? ⟨b, i, none⟩ = some (.bool (A.testBit i))) := hide (fun i hi => keep1 hB h2 (unhide H4 i hi))
    clear hown hB
    by_cases hc : i < n
    · skip
      have hcl := unhide H4r 31 (by omega)
      have HE : Hid (A.testBit 31 = extG A 32 true i) := hide (by unfold extG; rw [if_neg (by omega)]; rfl)
      generalize A.testBit 31 = e at *
      go_wp2_with (at_builtin; refine wpList_append_own _ rfl _ _ 44 rfl (w1.heap.size) 4 _ (.bool false) 1 1 Tryd.underlying44 iB rfl rfl rfl rfl (by decide) _ _ _ rfl ((unhide HO).alloc _) ⟨wr.heap.size, 0, none⟩ 1 1 [.bool e] rfl rfl (cell_one_new _ _ _) (one_bool _) (unhide HL1) (unhide HL2) (base_le (unhide HL3) _) ?_; intro v' wz hown' hgr _)
      have hr := append_bit (unhide HO) (unhide HB) (unhide HL3) hown' hgr (unhide HE)
      exact ⟨⟨i + 1, by omega, by omega, by go_num, hr.1, hr.2⟩, by simp [intOf]; omega⟩
    · have hin : i = n := by omega
      subst hin
      have hH := hide (holds_own (unhide HO) (by omega))
      go_wp2_with fail
      refine (unhide HF _ _ (unhide hH)).mono ?_
      rintro _ w3 ⟨rfl, hb⟩
      have HB := hide (bthen (bthen (unhide HW) (unhide HB)) hb)
      clear hb
      go_wp2_with fail
      go_ret
      exact ⟨rfl, unhide HB⟩
set_option maxHeartbeats 4000000 in
set_option maxRecDepth 100000 in
theorem rext_32f {a : Int} {n A : Nat} (hn : n ≤ 64) (g : 32 ≤ n) (HL : Hid (∀ W, Calls Tryd.prog 34 #[.int .i64 64, .int .u64 a] W fun e w' => ∃ s, e = .returned s ∧ HoldsB w' s A.testBit 64 ∧ Below W.heap.size W w'))
    (HF : Hid (∀ s W, HoldsB W s (extG A 32 false) n → Calls Tryd.prog 36 #[s] W fun e w' => e = .returned (.int .u64 ((num (extG A 32 false) n : Nat) : Int)) ∧ Below W.heap.size W w')) :
    Ct 16 #[.int .i64 (n : Int), .int .i64 32, .int .u64 a, .bool false] (.int .u64 (num (extG A 32 false) n : Nat)) := by
  refine hide (fun W => ?_)
  have gi : (32 : Int) ≤ n := by omega
  go_enter Tryd.func16, Tryd.ntmps16
  go_wp2_with fail
  refine (unhide HL _).mono ?_
  rintro _ w1 ⟨s1, rfl, hH, hb⟩
  have HW := hide hb
  obtain ⟨b, c, rfl, h2, h3, h4⟩ := hH
  have H4 := hide h4
  clear hb h4
  have hcc : 32 ≤ c := by omega
  go_wp2_with (at_builtin; refine wpList_append_own _ rfl _ _ 44 rfl (w1.heap.size) 4 _ (.bool false) 1 1 Tryd.underlying44 iB rfl rfl rfl rfl (by decide) _ _ _ rfl (World.ownsRow_nil _ _ _ _) ⟨b, 0, none⟩ 32 c (bvals A.testBit 32) rfl (by rw [bvals_len]) (bvals_cell (fun i hi => unhide H4 i (by omega))) (all_bool _ _) (by unfold maxLen; omega) (by omega) (Nat.le_refl _) ?_; intro v1 w2 hown1 hgr1 _)
  have HO1 : Hid (w2.ownsRow w1.heap.size 4 1 v1 32 (bvals (extG A 32 false) 32)) := hide (by
    rw [← bvals_ext]
    simpa using hown1)
  have HB1 : Hid (Below w1.heap.size w1 w2) := hide ((Below.refl _ _).grown hgr1 (Nat.le_refl _) (fun k hk => by cases hk))
  clear hown1 hgr1
  (try go_wp2_with fail)
  go_loopw [10, 11] (fun v5 v6 wr => ∃ i : Nat, 32 ≤ i ∧ i ≤ n ∧ v6 = .int .i64 (i : Int) ∧ wr.ownsRow w1.heap.size 4 1 v5 i (bvals (extG A 32 false) i) ∧ Below w1.heap.size w1 wr) (fun _ i _ => n - (intOf i).toNat)
  case atStart => exact ⟨32, by omega, g, rfl, unhide HO1, unhide HB1⟩
  case round =>
    obtain ⟨i, hi0, hi, rfl, hown, hB⟩ := hrel
    have HO := hide hown; have HB := hide hB
    have HL1 := hide (show i + 1 ≤ maxLen by unfold maxLen; omega)
    have HL2 := hide (show (i + 1) * 1 ≤ 140737488355328 by omega)
    have HL3 := hide (show w1.heap.size ≤ wr.heap.size from hB.size)
    have H4r : Hid (∀ i, i < 64 → wr.cell? ⟨b, i, none⟩ = some (.bool (A.testBit i))) := hide (fun i hi => keep1 hB h2 (unhide H4 i hi))
    clear hown hB
    by_cases hc : i < n
    · skip
      have HE : Hid (false = extG A 32 false i) := hide (by unfold extG; rw [if_neg (by omega)]; rfl)
      go_wp2_with (at_builtin; refine wpList_append_own _ rfl _ _ 44 rfl (w1.heap.size) 4 _ (.bool false) 1 1 Tryd.underlying44 iB rfl rfl rfl rfl (by decide) _ _ _ rfl ((unhide HO).alloc _) ⟨wr.heap.size, 0, none⟩ 1 1 [.bool false] rfl rfl (cell_one_new _ _ _) (one_bool _) (unhide HL1) (unhide HL2) (base_le (unhide HL3) _) ?_; intro v' wz hown' hgr _)
      have hr := append_bit (unhide HO) (unhide HB) (unhide HL3) hown' hgr (unhide HE)
      exact ⟨⟨i + 1, by omega, by omega, by go_num, hr.1, hr.2⟩, by simp [intOf]; omega⟩
    · have hin : i = n := by omega
      subst hin
      have hH := hide (holds_own (unhide HO) (by omega))
      go_wp2_with fail
      refine (unhide HF _ _ (unhide hH)).mono ?_
      rintro _ w3 ⟨rfl, hb⟩
      have HB := hide (bthen (bthen (unhide HW) (unhide HB)) hb)
      clear hb
      go_wp2_with fail
      go_ret
      exact ⟨rfl, unhide HB⟩
set_option maxHeartbeats 4000000 in
set_option maxRecDepth 100000 in
theorem rext_64t {a : Int} {n A : Nat} (hn : n ≤ 64) (g : 64 ≤ n) (HL : Hid (∀ W, Calls Tryd.prog 34 #[.int .i64 64, .int .u64 a] W fun e w' => ∃ s, e = .returned s ∧ HoldsB w' s A.testBit 64 ∧ Below W.heap.size W w'))
    (HF : Hid (∀ s W, HoldsB W s (extG A 64 true) n → Calls Tryd.prog 36 #[s] W fun e w' => e = .returned (.int .u64 ((num (extG A 64 true) n : Nat) : Int)) ∧ Below W.heap.size W w')) :
    Ct 16 #[.int .i64 (n : Int), .int .i64 64, .int .u64 a, .bool true] (.int .u64 (num (extG A 64 true) n : Nat)) := by
  refine hide (fun W => ?_)
  have gi : (64 : Int) ≤ n := by omega
  go_enter Tryd.func16, Tryd.ntmps16
  go_wp2_with fail
  refine (unhide HL _).mono ?_
  rintro _ w1 ⟨s1, rfl, hH, hb⟩
  have HW := hide hb
  obtain ⟨b, c, rfl, h2, h3, h4⟩ := hH
  have H4 := hide h4
  clear hb h4
  have hcc : 64 ≤ c := by omega
  go_wp2_with (at_builtin; refine wpList_append_own _ rfl _ _ 44 rfl (w1.heap.size) 4 _ (.bool false) 1 1 Tryd.underlying44 iB rfl rfl rfl rfl (by decide) _ _ _ rfl (World.ownsRow_nil _ _ _ _) ⟨b, 0, none⟩ 64 c (bvals A.testBit 64) rfl (by rw [bvals_len]) (bvals_cell (fun i hi => unhide H4 i (by omega))) (all_bool _ _) (by unfold maxLen; omega) (by omega) (Nat.le_refl _) ?_; intro v1 w2 hown1 hgr1 _)
  have HO1 : Hid (w2.ownsRow w1.heap.size 4 1 v1 64 (bvals (extG A 64 true) 64)) := hide (by
    rw [← bvals_ext]
    simpa using hown1)
  have HB1 : Hid (Below w1.heap.size w1 w2) := hide ((Below.refl _ _).grown hgr1 (Nat.le_refl _) (fun k hk => by cases hk))
  clear hown1 hgr1
  (try go_wp2_with fail)
  go_loopw [10, 11] (fun v5 v6 wr => ∃ i : Nat, 64 ≤ i ∧ i ≤ n ∧ v6 = .int .i64 (i : Int) ∧ wr.ownsRow w1.heap.size 4 1 v5 i (bvals (extG A 64 true) i) ∧ Below w1.heap.size w1 wr) (fun _ i _ => n - (intOf i).toNat)
  case atStart => exact ⟨64, by omega, g, rfl, unhide HO1, unhide HB1⟩
  case round =>
    obtain ⟨i, hi0, hi, rfl, hown, hB⟩ := hrel
    have HO := hide hown; have HB := hide hB
    have HL1 := hide (show i + 1 ≤ maxLen by unfold maxLen; omega)
    have HL2 := hide (show (i + 1) * 1 ≤ 140737488355328 by omega)
    have HL3 := hide (show w1.heap.size ≤ wr.heap.size from hB.size)
    have H4r : Hid (∀ i, i < 64 → wr.cell? ⟨b, i, none⟩ = some (.bool (A.testBit i))) := hide (fun i hi => keep1 hB h2 (unhide H4 i hi))
    clear hown hB
    by_cases hc : i < n
    · omega
    · have hin : i = n := by omega
      subst hin
      have hH := hide (holds_own (unhide HO) (by omega))
      go_wp2_with fail
      refine (unhide HF _ _ (unhide hH)).mono ?_
      rintro _ w3 ⟨rfl, hb⟩
      have HB := hide (bthen (bthen (unhide HW) (unhide HB)) hb)
      clear hb
      go_wp2_with fail
      go_ret
      exact ⟨rfl, unhide HB⟩
set_option maxHeartbeats 4000000 in
set_option maxRecDepth 100000 in
theorem rext_64f {a : Int} {n A : Nat} (hn : n ≤ 64) (g : 64 ≤ n) (HL : Hid (∀ W, Calls Tryd.prog 34 #[.int .i64 64, .int .u64 a] W fun e w' => ∃ s, e = .returned s ∧ HoldsB w' s A.testBit 64 ∧ Below W.heap.size W w'))
    (HF : Hid (∀ s W, HoldsB W s (extG A 64 false) n → Calls Tryd.prog 36 #[s] W fun e w' => e = .returned (.int .u64 ((num (extG A 64 false) n : Nat) : Int)) ∧ Below W.heap.size W w')) :
    Ct 16 #[.int .i64 (n : Int), .int .i64 64, .int .u64 a, .bool false] (.int .u64 (num (extG A 64 false) n : Nat)) := by
  refine hide (fun W => ?_)
  have gi : (64 : Int) ≤ n := by omega
  go_enter Tryd.func16, Tryd.ntmps16
  go_wp2_with fail
  refine (unhide HL _).mono ?_
  rintro _ w1 ⟨s1, rfl, hH, hb⟩
  have HW := hide hb
  obtain ⟨b, c, rfl, h2, h3, h4⟩ := hH
  have H4 := hide h4
  clear hb h4
  have hcc : 64 ≤ c := by omega
  go_wp2_with (at_builtin; refine wpList_append_own _ rfl _ _ 44 rfl (w1.heap.size) 4 _ (.bool false) 1 1 Tryd.underlying44 iB rfl rfl rfl rfl (by decide) _ _ _ rfl (World.ownsRow_nil _ _ _ _) ⟨b, 0, none⟩ 64 c (bvals A.testBit 64) rfl (by rw [bvals_len]) (bvals_cell (fun i hi => unhide H4 i (by omega))) (all_bool _ _) (by unfold maxLen; omega) (by omega) (Nat.le_refl _) ?_; intro v1 w2 hown1 hgr1 _)
  have HO1 : Hid (w2.ownsRow w1.heap.size 4 1 v1 64 (bvals (extG A 64 false) 64)) := hide (by
    rw [← bvals_ext]
    simpa using hown1)
  have HB1 : Hid (Below w1.heap.size w1 w2) := hide ((Below.refl _ _).grown hgr1 (Nat.le_refl _) (fun k hk => by cases hk))
  clear hown1 hgr1
  (try go_wp2_with fail)
  go_loopw [10, 11] (fun v5 v6 wr => ∃ i : Nat, 64 ≤ i ∧ i ≤ n ∧ v6 = .int .i64 (i : Int) ∧ wr.ownsRow w1.heap.size 4 1 v5 i (bvals (extG A 64 false) i) ∧ Below w1.heap.size w1 wr) (fun _ i _ => n - (intOf i).toNat)
  case atStart => exact ⟨64, by omega, g, rfl, unhide HO1, unhide HB1⟩
  case round =>
    obtain ⟨i, hi0, hi, rfl, hown, hB⟩ := hrel
    have HO := hide hown; have HB := hide hB
    have HL1 := hide (show i + 1 ≤ maxLen by unfold maxLen; omega)
    have HL2 := hide (show (i + 1) * 1 ≤ 140737488355328 by omega)
    have HL3 := hide (show w1.heap.size ≤ wr.heap.size from hB.size)
    have H4r : Hid (∀ i, i < 64 → wr.cell? ⟨b, i, none⟩ = some (.bool (A.testBit i))) := hide (fun i hi => keep1 hB h2 (unhide H4 i hi))
    clear hown hB
    by_cases hc : i < n
    · omega
    · have hin : i = n := by omega
      subst hin
      have hH := hide (holds_own (unhide HO) (by omega))
      go_wp2_with fail
      refine (unhide HF _ _ (unhide hH)).mono ?_
      rintro _ w3 ⟨rfl, hb⟩
      have HB := hide (bthen (bthen (unhide HW) (unhide HB)) hb)
      clear hb
      go_wp2_with fail
      go_ret
      exact ⟨rfl, unhide HB⟩
end Go.Proofs.YtjlegmgpgfjciaaDoor
