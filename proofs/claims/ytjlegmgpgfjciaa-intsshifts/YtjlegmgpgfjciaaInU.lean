/- The reference's Turn. -/
import Derived.Test.YtjlegmgpgfjciaaInL
namespace Go.Proofs.Ytjlegmgpgfjciaa
open Go.RowKit
open Go.Proofs.Ytjlegmgpgfjciaa.W

set_option maxHeartbeats 4000000 in
set_option maxRecDepth 100000 in
theorem turn_w {a t : Int} {n A : Nat} {rd inn : Bool} (hn : n ≤ 64) (n0 : 0 < n) (t0 : -(n : Int) < t) (t1 : t < n)
    (HL : Hid (∀ W, Calls Try.prog 61 #[.int .i64 (n : Int), .int .u64 a] W fun e w' => ∃ s, e = .returned s ∧ HoldsB w' s A.testBit n ∧ Below W.heap.size W w'))
    (HF : Hid (∀ s W, HoldsB W s (turnG A n t rd inn) n → Calls Try.prog 62 #[s] W fun e w' => e = .returned (.int .u64 ((num (turnG A n t rd inn) n : Nat) : Int)) ∧ Below W.heap.size W w')) :
    Ct 29 #[.int .i64 (n : Int), .int .u64 a, .int .i64 t, .bool rd, .bool inn] (.int .u64 ((num (turnG A n t rd inn) n : Nat) : Int)) := by
  refine hide (fun W => ?_)
  go_enter Try.func29, Try.ntmps29
  go_wp2_with fail
  refine (unhide HL _).mono ?_
  rintro _ w1 ⟨s1, rfl, hH, hb⟩
  have HH := hide hH
  have HW := hide hb
  obtain ⟨b, c, rfl, -⟩ := hH
  clear hb
  go_wp2_with fail
  go_loopw [12, 13] (fun v5 v6 wr => ∃ i : Nat, i ≤ n ∧ v6 = .int .i64 (i : Int) ∧ wr.ownsRow w1.heap.size 4 1 v5 i (bvals (turnG A n t rd inn) i) ∧ Below w1.heap.size w1 wr) (fun _ i _ => n - (intOf i).toNat)
  case atStart => exact ⟨0, by omega, rfl, World.ownsRow_nil _ _ _ _, Below.refl _ _⟩
  case round =>
    obtain ⟨i, hi, rfl, hown, hB⟩ := hrel
    have HO := hide hown; have HB := hide hB
    have HL1 := hide (show i + 1 ≤ maxLen by unfold maxLen; omega)
    have HL2 := hide (show (i + 1) * 1 ≤ 140737488355328 by omega)
    have HL3 := hide (show w1.heap.size ≤ wr.heap.size from hB.size)
    have HHr := hide ((unhide HH).below hB)
    clear hown hB
    obtain ⟨b', c', he, h2, h3, h4⟩ := unhide HHr
    have hbb : b' = b := by
      injection he with e1 e2 e3
      injection e1 with e1
      injection e1 with e1
      exact e1.symm
    subst hbb
    have H4 := hide h4
    clear h4 he HHr
    by_cases hc : i < n
    · have hk : IntKind.i64.wrap ((i : Int) - t) = (i : Int) - t := i64_id (by omega) (by omega)
      by_cases g : 0 ≤ (i : Int) - t ∧ (i : Int) - t < n
      · have HE : Hid (A.testBit ((i : Int) - t).toNat = turnG A n t rd inn i) := hide (by unfold turnG; rw [if_pos g])
        have hcell := unhide H4 ((i : Int) - t).toNat (by omega)
        obtain ⟨g1, g2⟩ := g
        obtain ⟨K, hK⟩ := Int.eq_ofNat_of_zero_le g1
        rw [hK, Int.toNat_natCast] at hcell HE
        rw [hK] at g2
        generalize A.testBit K = e at *
        go_wp2_with (at_builtin; refine wpList_append_own _ rfl _ _ 62 rfl (w1.heap.size) 4 _ (.bool false) 1 1 Try.underlying62 iB rfl rfl rfl rfl (by decide) _ _ _ rfl ((unhide HO).alloc _) ⟨wr.heap.size, 0, none⟩ 1 1 [.bool e] rfl rfl (cell_one_new _ _ _) (one_bool _) (unhide HL1) (unhide HL2) (base_le (unhide HL3) _) ?_; intro v' wz hown' hgr _)
        have hr := append_bit (unhide HO) (unhide HB) (unhide HL3) hown' hgr (unhide HE)
        refine ⟨⟨i + 1, by omega, by go_num, hr.1, hr.2⟩, by simp [intOf]; omega⟩
      · cases rd
        · have HE : Hid (inn = turnG A n t false inn i) := hide (by unfold turnG; rw [if_neg g]; rfl)
          generalize hk' : (i : Int) - t = k at *
          by_cases g1 : 0 ≤ k
          · have g2 : ¬ k < n := fun h => g ⟨g1, h⟩
            clear g
            go_wp2_with (at_builtin; refine wpList_append_own _ rfl _ _ 62 rfl (w1.heap.size) 4 _ (.bool false) 1 1 Try.underlying62 iB rfl rfl rfl rfl (by decide) _ _ _ rfl ((unhide HO).alloc _) ⟨wr.heap.size, 0, none⟩ 1 1 [.bool inn] rfl rfl (cell_one_new _ _ _) (one_bool _) (unhide HL1) (unhide HL2) (base_le (unhide HL3) _) ?_; intro v' wz hown' hgr _)
            have hr := append_bit (unhide HO) (unhide HB) (unhide HL3) hown' hgr (unhide HE)
            refine ⟨⟨i + 1, by omega, by go_num, hr.1, hr.2⟩, by simp [intOf]; omega⟩
          · clear g
            go_wp2_with (at_builtin; refine wpList_append_own _ rfl _ _ 62 rfl (w1.heap.size) 4 _ (.bool false) 1 1 Try.underlying62 iB rfl rfl rfl rfl (by decide) _ _ _ rfl ((unhide HO).alloc _) ⟨wr.heap.size, 0, none⟩ 1 1 [.bool inn] rfl rfl (cell_one_new _ _ _) (one_bool _) (unhide HL1) (unhide HL2) (base_le (unhide HL3) _) ?_; intro v' wz hown' hgr _)
            have hr := append_bit (unhide HO) (unhide HB) (unhide HL3) hown' hgr (unhide HE)
            refine ⟨⟨i + 1, by omega, by go_num, hr.1, hr.2⟩, by simp [intOf]; omega⟩
        · have HE : Hid (A.testBit (((i : Int) - t + n) % n).toNat = turnG A n t true inn i) := hide (by unfold turnG; rw [if_neg g]; rfl)
          have hk2 : IntKind.i64.wrap ((i : Int) - t + n) = (i : Int) - t + n := i64_id (by omega) (by omega)
          have hq : 0 ≤ (i : Int) - t + n := by omega
          have q1 := Int.emod_nonneg ((i : Int) - t + n) (show (n : Int) ≠ 0 by omega)
          have q2 := Int.emod_lt_of_pos ((i : Int) - t + n) (show 0 < (n : Int) by omega)
          have hcell := unhide H4 (((i : Int) - t + n) % n).toNat (by omega)
          have hm : ((i : Int) - t + n).tmod n = ((i : Int) - t + n) % n := Int.tmod_eq_emod_of_nonneg hq
          have hn0 : ¬ (n : Int) = 0 := by omega
          generalize hk' : (i : Int) - t = k at *
          generalize hk2' : k + (n : Int) = k2 at *
          generalize hK : k2 % (n : Int) = k3 at *
          obtain ⟨K, rfl⟩ := Int.eq_ofNat_of_zero_le q1
          rw [Int.toNat_natCast] at hcell HE
          generalize A.testBit K = e at *
          by_cases g1 : 0 ≤ k
          · have g2 : ¬ k < n := fun h => g ⟨g1, h⟩
            clear g
            go_wp2_with (at_builtin; refine wpList_append_own _ rfl _ _ 62 rfl (w1.heap.size) 4 _ (.bool false) 1 1 Try.underlying62 iB rfl rfl rfl rfl (by decide) _ _ _ rfl ((unhide HO).alloc _) ⟨wr.heap.size, 0, none⟩ 1 1 [.bool e] rfl rfl (cell_one_new _ _ _) (one_bool _) (unhide HL1) (unhide HL2) (base_le (unhide HL3) _) ?_; intro v' wz hown' hgr _)
            have hr := append_bit (unhide HO) (unhide HB) (unhide HL3) hown' hgr (unhide HE)
            refine ⟨⟨i + 1, by omega, by go_num, hr.1, hr.2⟩, by simp [intOf]; omega⟩
          · clear g
            go_wp2_with (at_builtin; refine wpList_append_own _ rfl _ _ 62 rfl (w1.heap.size) 4 _ (.bool false) 1 1 Try.underlying62 iB rfl rfl rfl rfl (by decide) _ _ _ rfl ((unhide HO).alloc _) ⟨wr.heap.size, 0, none⟩ 1 1 [.bool e] rfl rfl (cell_one_new _ _ _) (one_bool _) (unhide HL1) (unhide HL2) (base_le (unhide HL3) _) ?_; intro v' wz hown' hgr _)
            have hr := append_bit (unhide HO) (unhide HB) (unhide HL3) hown' hgr (unhide HE)
            refine ⟨⟨i + 1, by omega, by go_num, hr.1, hr.2⟩, by simp [intOf]; omega⟩
    · have hin : i = n := by omega
      subst hin
      have hH := hide (holds_own (unhide HO) n0)
      go_wp2_with fail
      refine (unhide HF _ _ (unhide hH)).mono ?_
      rintro _ w2 ⟨rfl, hb⟩
      have HB := hide (bthen (bthen (unhide HW) (unhide HB)) hb)
      clear hb
      go_wp2_with fail
      go_ret
      exact ⟨rfl, unhide HB⟩
end Go.Proofs.Ytjlegmgpgfjciaa
