/- The law UtfReads: its walks. -/
import Derived.Test.YtfjoejgioinfhaaUtI
namespace Go.Proofs.Ytfjoejgioinfhaa
open Go.RowKit

set_option maxHeartbeats 1000000 in
set_option maxRecDepth 100000 in
theorem reads_big {a : Option Addr} {len cap : Nat} {k : Int} (W : World) (h : (1000 : Int) < (len : Int)) :
    Calls Try.prog 3 #[.slice a len cap, .int .i64 k] W fun r W' => r = .returned (.bool true) ∧ Below W.heap.size W W' := by
  have HA := awake_any
  go_enter Try.func3, Try.ntmps3
  go_wp2_with fail
  refine (unhide HA _).mono ?_
  rintro _ w1 ⟨rfl, hb⟩
  go_wp2_with fail
  go_ret
  exact ⟨rfl, hb⟩
set_option maxHeartbeats 1000000 in
set_option maxRecDepth 100000 in
theorem reads_w {a : Option Addr} {len cap : Nat} {k c j x i n m : Int} {ok is : Bool} (W : World) (hl : ¬ (1000 : Int) < (len : Int))
    (HN : Hid (∀ W', Below W.heap.size W W' → Calls Try.prog 8 #[.slice a len cap, .int .i64 k] W' fun r W'' => r = .returned (.tuple #[.int .i32 c, .int .i64 j, .bool ok]) ∧ Below W'.heap.size W' W''))
    (HR : Hid (∀ W', Below W.heap.size W W' → Calls Try.prog 9 #[.slice a len cap, .int .i64 k] W' fun r W'' => r = .returned (.tuple #[.int .i64 x, .int .i64 i]) ∧ Below W'.heap.size W' W''))
    (HC : Hid (∀ W', Below W.heap.size W W' → Calls Try.prog 10 #[.slice a len cap] W' fun r W'' => r = .returned (.tuple #[.int .i64 n, .bool is]) ∧ Below W'.heap.size W' W''))
    (HM : Hid (∀ W', Below W.heap.size W W' → Calls Try.prog 11 #[.slice a len cap] W' fun r W'' => r = .returned (.int .i64 m) ∧ Below W'.heap.size W' W''))
    (HV : Hid (∀ W', Below W.heap.size W W' → Calls Try.prog 12 #[.slice a len cap] W' fun r W'' => r = .returned (.bool is) ∧ Below W'.heap.size W' W''))
    (h1 : (ok = true ∧ c = x ∧ i = j ∧ 0 ≤ x ∧ x ≤ 1114111) ∨ (ok = false ∧ c = 0 ∧ j = 0 ∧ x = -1 ∧ i = 0))
    (h2 : (is = true ∧ m = n ∧ 0 ≤ n) ∨ (is = false ∧ n = 0 ∧ m = -1)) :
    Calls Try.prog 3 #[.slice a len cap, .int .i64 k] W fun r W' => r = .returned (.bool true) ∧ Below W.heap.size W W' := by
  have HA := awake_any
  rcases h1 with ⟨rfl, rfl, rfl, h1, h1'⟩ | ⟨rfl, rfl, rfl, rfl, rfl⟩
  all_goals rcases h2 with ⟨rfl, rfl, h2⟩ | ⟨rfl, rfl, rfl⟩
  all_goals
    go_enter Try.func3, Try.ntmps3
    go_wp2_with fail
    refine (unhide HA _).mono ?_
    rintro _ w1 ⟨rfl, hb⟩
    have HB := hide hb
    clear hb
    go_wp2_with fail
    refine (unhide HN _ (unhide HB)).mono ?_
    rintro _ w2 ⟨rfl, hb⟩
    have HB := hide (bthen (unhide HB) hb)
    clear hb
    go_wp2_with fail
    refine (unhide HR _ (unhide HB)).mono ?_
    rintro _ w3 ⟨rfl, hb⟩
    have HB := hide (bthen (unhide HB) hb)
    clear hb
    go_wp2_with fail
    refine (unhide HC _ (unhide HB)).mono ?_
    rintro _ w4 ⟨rfl, hb⟩
    have HB := hide (bthen (unhide HB) hb)
    clear hb
    go_wp2_with fail
    refine (unhide HM _ (unhide HB)).mono ?_
    rintro _ w5 ⟨rfl, hb⟩
    have HB := hide (bthen (unhide HB) hb)
    clear hb
    go_wp2_with fail
    refine (unhide HV _ (unhide HB)).mono ?_
    rintro _ w6 ⟨rfl, hb⟩
    have HB := hide (bthen (unhide HB) hb)
    clear hb
    go_wp2_with fail
    go_ret
    exact ⟨by first | rfl | simp, unhide HB⟩
theorem reads_any {a : Option Addr} {len cap : Nat} {xs : List Int} (k : Int) (W : World) (hX : Byt xs) (hS : len ≤ 140737488355328 → Sl W a len cap xs) :
    Calls Try.prog 3 #[.slice a len cap, .int .i64 k] W fun r W' => r = .returned (.bool true) ∧ Below W.heap.size W W' := by
  by_cases hl : (1000 : Int) < (len : Int)
  · exact reads_big W hl
  · have hS := hS (by omega)
    have h2 : ((cnt xs).isSome = true ∧ rcN (cnt xs) = (((cnt xs).getD 0 : Nat) : Int) ∧ 0 ≤ (((cnt xs).getD 0 : Nat) : Int)) ∨ ((cnt xs).isSome = false ∧ (((cnt xs).getD 0 : Nat) : Int) = 0 ∧ rcN (cnt xs) = -1) := by
      cases cnt xs with
      | none => exact Or.inr ⟨rfl, rfl, rfl⟩
      | some n => exact Or.inl ⟨rfl, rfl, by omega⟩
    have HC : Hid (∀ W', Below W.heap.size W W' → Calls Try.prog 10 #[.slice a len cap] W' fun r W'' => r = .returned (.tuple #[.int .i64 (((cnt xs).getD 0 : Nat) : Int), .bool (cnt xs).isSome]) ∧ Below W'.heap.size W' W'') := hide fun W' hb => count_any hX (hS.below hb)
    have HM := hide (fun W' (hb : Below W.heap.size W W') => rcount_any (hide hX) (hide (hS.below hb)))
    have HV := hide (fun W' (hb : Below W.heap.size W W') => valid_any hX (hS.below hb))
    by_cases h : k < 0 ∨ (len : Int) < k
    · exact reads_w W hl (hide fun W' _ => next_no h) (hide fun W' _ => rnext_no (by omega)) HC HM HV (Or.inr ⟨rfl, rfl, rfl, rfl, rfl⟩) h2
    · obtain ⟨k', rfl⟩ := Int.eq_ofNat_of_zero_le (show 0 ≤ k by omega)
      by_cases he : k' = len
      · subst he
        have e : xs.drop k' = [] := List.drop_of_length_le (by rw [hS.1]; omega)
        refine reads_w W hl (hide fun W' hb => ?_) (hide fun W' _ => rnext_no (by omega)) HC HM HV (Or.inr ⟨rfl, rfl, rfl, rfl, rfl⟩) h2
        have := next_any hX (hS.below hb) (Nat.le_refl _)
        rw [e, nxT_nil] at this
        exact this
      · have hlt : k' < len := by omega
        have hlen : 1 ≤ (xs.drop k').length := by rw [List.length_drop, hS.1]; omega
        have hne : xs.drop k' ≠ [] := fun e => by rw [e] at hlen; simp at hlen
        have hm := dc_lt (byt_drop hX k') hlen
        have N := fun W' (hb : Below W.heap.size W W') => next_any hX (hS.below hb) (Nat.le_of_lt hlt)
        have R := fun W' (hb : Below W.heap.size W W') => rnext_any hX (hS.below hb) hlt
        cases hc : isC (xs.drop k')
        · rw [nxT_bad k' hc] at N
          have e : rnT k' (xs.drop k') = .tuple #[.int .i64 (-1), .int .i64 0] := by unfold rnT; rw [if_neg (by rw [hc]; decide)]
          rw [e] at R
          exact reads_w W hl (hide N) (hide R) HC HM HV (Or.inr ⟨rfl, rfl, rfl, rfl, rfl⟩) h2
        · have e1 : nxT k' (xs.drop k') = .tuple #[.int .i32 ((dc (xs.drop k')).1 : Int), .int .i64 ((k' + (dc (xs.drop k')).2 : Nat) : Int), .bool true] := by unfold nxT; rw [if_pos ⟨hne, hc⟩]
          have e2 : rnT k' (xs.drop k') = .tuple #[.int .i64 ((dc (xs.drop k')).1 : Int), .int .i64 ((k' + (dc (xs.drop k')).2 : Nat) : Int)] := by unfold rnT; rw [if_pos hc]; rfl
          rw [e1] at N
          rw [e2] at R
          exact reads_w W hl (hide N) (hide R) HC HM HV (Or.inl ⟨rfl, rfl, rfl, by omega, by omega⟩) h2
end Go.Proofs.Ytfjoejgioinfhaa
