/- Slices of bools; the reference's Bits and Of. -/
import Derived.Test.YtjlegmgpgfjciaaDoorInK
import Derived.LoopTactic
import Derived.Deep.Cut
import Derived.Deep.QuietTactic
import Derived.BigQuiet
namespace Go.Proofs.YtjlegmgpgfjciaaDoor
open Go.RowKit

theorem base_le {B : Nat} {w : World} (h : B ≤ w.heap.size) (o : Obj) : B ≤ (w.alloc o).heap.size := by simp; omega
/-- Bits as values. -/
def bvals (g : Nat → Bool) (n : Nat) : List Value := (List.range n).map fun i => Value.bool (g i)
theorem bvals_succ (g : Nat → Bool) (n : Nat) : bvals g (n + 1) = bvals g n ++ [.bool (g n)] := by simp [bvals, List.range_succ]
theorem bvals_len (g : Nat → Bool) (n : Nat) : (bvals g n).length = n := by simp [bvals]
/-- A slice of bools that holds these. -/
def HoldsB (w : World) (s : Value) (g : Nat → Bool) (n : Nat) : Prop := ∃ b c, s = .slice (some ⟨b, 0, none⟩) n c ∧ b < w.heap.size ∧ n ≤ c ∧ ∀ i, i < n → w.cell? ⟨b, i, none⟩ = some (.bool (g i))
theorem HoldsB.below {w w' : World} {s : Value} {g : Nat → Bool} {n : Nat} (h : HoldsB w s g n) (hb : Below w.heap.size w w') : HoldsB w' s g n := by
  obtain ⟨b, c, h1, h2, h3, h4⟩ := h
  exact ⟨b, c, h1, Nat.lt_of_lt_of_le h2 hb.size, h3, fun i hi => by rw [hb.cell (p := ⟨b, i, none⟩) h2]; exact h4 i hi⟩
theorem holds_own {w : World} {base : Nat} {v : Value} {g : Nat → Bool} {n : Nat} (h : w.ownsRow base 4 1 v n (bvals g n)) (hn : 0 < n) : HoldsB w v g n := by
  obtain ⟨h1, h2⟩ := h
  rcases h2 with ⟨h2, h3⟩ | ⟨b, cap, cur, h2, h3, h4, h5, h6, h7, h8⟩
  · omega
  · refine ⟨b, cap, h2, ?_, h5, fun i hi => ?_⟩
    · rw [Array.getElem?_eq_some_iff] at h4; exact h4.1
    · have := World.ownsRow.cellAt (w := w) (base := base) (e := 4) (size := 1) (g := b) (n := n) (cap := cap) (xs := bvals g n) ⟨h1, Or.inr ⟨b, cap, cur, rfl, h3, h4, h5, h6, h7, h8⟩⟩ i (by omega)
      rw [this]
      unfold bvals
      rw [List.getElem?_map, List.getElem?_range hi]
      rfl
theorem iB : Tryd.prog.info? 4 = some ((Tryd.prog.info? 4).getD default) := by kernel_rfl
theorem one_bool (x : Bool) : ∀ u ∈ [Value.bool x], u.oneCell' = true := by
  intro u hu
  simp at hu
  subst hu
  rfl
/-- A bit more in an owned row. -/
theorem append_bit {wq w1 W0 : World} {B n : Nat} {v v' : Value} {g : Nat → Bool} {d : Bool} {o : Obj} (hO : wq.ownsRow B 4 1 v n (bvals g n)) (hB : Below B W0 wq) (hL : B ≤ wq.heap.size)
    (hown : w1.ownsRow B 4 1 v' (n + 1) (bvals g n ++ [.bool d])) (hgr : (wq.alloc o).grownBy w1 v.ownBlock) (hd : d = g n) :
    w1.ownsRow B 4 1 v' (n + 1) (bvals g (n + 1)) ∧ Below B W0 w1 := by
  constructor
  · rw [bvals_succ, ← hd]; exact hown
  · exact (hB.alloc hL o).grown hgr (base_le hL o) (fun k hk => (hO.lt k hk).1)
theorem bit_is (A i : Nat) : (((A / 2 ^ i : Nat) : Int) % 2 == 1) = A.testBit i := by
  rw [tb_div]
  by_cases h : A / 2 ^ i % 2 = 1
  · rw [decide_eq_true h]
    generalize A / 2 ^ i = z at *
    rw [beq_iff_eq]; omega
  · rw [decide_eq_false h]
    generalize A / 2 ^ i = z at *
    rw [beq_eq_false_iff_ne]; omega
theorem half_is (A i : Nat) (h : A < 18446744073709551616) : IntKind.u64.wrap (((A / 2 ^ i : Nat) : Int) / 2) = ((A / 2 ^ (i + 1) : Nat) : Int) := by
  have e : A / 2 ^ (i + 1) = A / 2 ^ i / 2 := by rw [Nat.pow_succ, Nat.div_div_eq_div_mul]
  have := Nat.div_le_self A (2 ^ i)
  rw [e, IntKind.wrap_u64]
  generalize A / 2 ^ i = z at *
  omega
set_option maxHeartbeats 4000000 in
set_option maxRecDepth 100000 in
theorem bits_w {a : Int} {n A : Nat} (hn : n ≤ 64) (n0 : 0 < n) (hA : A < 18446744073709551616) (HC : Ct 15 #[.int .i64 (n : Int), .int .u64 a] (.int .u64 (A : Int))) :
    Hid (∀ W, Calls Tryd.prog 34 #[.int .i64 (n : Int), .int .u64 a] W fun e w' => ∃ s, e = .returned s ∧ HoldsB w' s A.testBit n ∧ Below W.heap.size W w') := by
  refine hide (fun W => ?_)
  go_enter Tryd.func34, Tryd.ntmps34
  go_wp2_with fail
  refine (unhide HC _).mono ?_
  rintro _ w1 ⟨rfl, hb⟩
  have HW := hide hb
  clear hb
  go_wp2_with fail
  go_loopw [1, 5, 6] (fun v1 v5 v6 wr => ∃ i : Nat, i ≤ n ∧ v1 = .int .u64 ((A / 2 ^ i : Nat) : Int) ∧ v6 = .int .i64 (i : Int) ∧ wr.ownsRow w1.heap.size 4 1 v5 i (bvals A.testBit i) ∧ Below w1.heap.size w1 wr) (fun _ _ i _ => n - (intOf i).toNat)
  case atStart => exact ⟨0, by omega, by rw [Nat.pow_zero, Nat.div_one], rfl, World.ownsRow_nil _ _ _ _, Below.refl _ _⟩
  case round =>
    obtain ⟨i, hi, rfl, rfl, hown, hB⟩ := hrel
    have HO := hide hown; have HB := hide hB
    have HL1 := hide (show i + 1 ≤ maxLen by unfold maxLen; omega)
    have HL2 := hide (show (i + 1) * 1 ≤ 140737488355328 by omega)
    have HL3 := hide (show w1.heap.size ≤ wr.heap.size from hB.size)
    have HD := hide (half_is A i hA)
    have HE := hide (bit_is A i)
    clear hown hB
    by_cases hc : i < n
    · have z0 : (0 : Int) ≤ ((A / 2 ^ i : Nat) : Int) := Int.natCast_nonneg _
      generalize ((A / 2 ^ i : Nat) : Int) = z at *
      go_wp2_with (at_builtin; refine wpList_append_own _ rfl _ _ 44 rfl (w1.heap.size) 4 _ (.bool false) 1 1 Tryd.underlying44 iB rfl rfl rfl rfl (by decide) _ _ _ rfl ((unhide HO).alloc _) ⟨wr.heap.size, 0, none⟩ 1 1 [.bool (z % 2 == 1)] rfl rfl (cell_one_new _ _ _) (one_bool _) (unhide HL1) (unhide HL2) (base_le (unhide HL3) _) ?_; intro v' wz hown' hgr _)
      have hr := append_bit (unhide HO) (unhide HB) (unhide HL3) hown' hgr (unhide HE)
      refine ⟨⟨i + 1, by omega, ?_, by go_num, hr.1, hr.2⟩, by simp [intOf]; omega⟩
      rw [Int.tdiv_eq_ediv_of_nonneg z0, unhide HD]
    · have hin : i = n := by omega
      subst hin
      obtain ⟨b, c, rfl, h2, h3, h4⟩ := holds_own (unhide HO) n0
      go_wp2_with fail
      exact bodyPost_ret (v := .slice (some ⟨b, 0, none⟩) i c) (by simp [results, Tryd.results34, go_sem]) rfl ⟨_, rfl, ⟨b, c, rfl, h2, h3, h4⟩, bthen (unhide HW) (unhide HB)⟩
set_option maxHeartbeats 4000000 in
set_option maxRecDepth 100000 in
theorem of_w {g : Nat → Bool} {n : Nat} (hn : n ≤ 64) : Hid (∀ s W, HoldsB W s g n → Calls Tryd.prog 36 #[s] W fun e w' => e = .returned (.int .u64 ((num g n : Nat) : Int)) ∧ Below W.heap.size W w') := by
  refine hide (fun s W hH => ?_)
  obtain ⟨b, c, rfl, h2, h3, h4⟩ := hH
  have H4 := hide h4
  clear h4
  have hlt : num g n < 18446744073709551616 := Nat.lt_of_lt_of_le (num_lt g n) (Nat.pow_le_pow_right (show 0 < 2 by omega) hn)
  go_enter Tryd.func36, Tryd.ntmps36
  go_wp2_with fail
  go_loop [3, 4] (fun v3 v4 => ∃ j : Nat, j ≤ n ∧ v4 = .int .i64 ((j : Int) - 1) ∧ v3 = .int .u64 ((num g n / 2 ^ j : Nat) : Int)) (fun _ v4 => (intOf v4 + 1).toNat)
  case atStart => exact ⟨n, Nat.le_refl _, by go_num, by rw [num_end]; rfl⟩
  case round =>
    obtain ⟨j, hj, rfl, rfl⟩ := hrel
    cases j with
    | zero =>
      rw [Nat.pow_zero, Nat.div_one]
      go_wp2_with fail
      go_ret
      exact ⟨rfl, Below.refl _ _⟩
    | succ j =>
      have hs := num_step g n j (by omega)
      have hle := Nat.div_le_self (num g n) (2 ^ j)
      have hcm := unhide H4 j (by omega)
      rw [show ((j + 1 : Nat) : Int) - 1 = (j : Int) by omega]
      generalize num g n / 2 ^ (j + 1) = z at *
      cases hg : g j
      · rw [hg] at hcm hs
        have hs' : num g n / 2 ^ j = 2 * z := hs
        have e : IntKind.u64.wrap (2 * (z : Int)) = ((2 * z : Nat) : Int) := by rw [IntKind.wrap_u64]; omega
        go_wp2_with fail
        refine ⟨⟨j, by omega, by go_num, ?_⟩, by simp [intOf]⟩
        rw [hs']
        exact congrArg _ (by omega)
      · rw [hg] at hcm hs
        have hs' : num g n / 2 ^ j = 2 * z + 1 := hs
        have e : IntKind.u64.wrap (2 * (z : Int)) = ((2 * z : Nat) : Int) := by rw [IntKind.wrap_u64]; omega
        have e2 : IntKind.u64.wrap (((2 * z : Nat) : Int) + 1) = ((2 * z + 1 : Nat) : Int) := by rw [IntKind.wrap_u64]; omega
        go_wp2_with fail
        refine ⟨⟨j, by omega, by go_num, ?_⟩, by simp [intOf]⟩
        rw [hs']
        exact congrArg _ (by omega)
end Go.Proofs.YtjlegmgpgfjciaaDoor
