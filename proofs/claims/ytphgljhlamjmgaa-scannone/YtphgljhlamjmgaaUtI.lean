/- The reference's Next and Count of any bytes; awake. -/
import Derived.Test.YtphgljhlamjmgaaUtH
namespace Go.Proofs.Ytphgljhlamjmgaa
open Go.RowKit

set_option maxHeartbeats 1000000 in
set_option maxRecDepth 100000 in
theorem rnext_no {a : Option Addr} {len cap : Nat} {k : Int} {W : World} (h : k < 0 ∨ (len : Int) ≤ k) :
    Calls Try.prog 91 #[.slice a len cap, .int .i64 k] W fun r W' => r = .returned (.tuple #[.int .i64 (-1), .int .i64 0]) ∧ Below W.heap.size W W' := by
  by_cases h1 : k < 0
  · have d : decide (k < 0) = true := decide_eq_true h1
    clear h
    go_enter Try.func91, Try.ntmps91
    go_wp2_with fail
    exact bodyPost_ret (v := .tuple #[.int .i64 (-1), .int .i64 0]) (by simp [results, Try.results91, go_sem]) rfl ⟨rfl, Below.refl _ _⟩
  · have h2 : (len : Int) ≤ k := by omega
    have d : decide (k < 0) = false := decide_eq_false h1
    have d2 : decide ((len : Int) ≤ k) = true := decide_eq_true h2
    clear h
    go_enter Try.func91, Try.ntmps91
    go_wp2_with fail
    exact bodyPost_ret (v := .tuple #[.int .i64 (-1), .int .i64 0]) (by simp [results, Try.results91, go_sem]) rfl ⟨rfl, Below.refl _ _⟩
theorem rnext_any {a : Option Addr} {len cap k : Nat} {xs : List Int} {W : World} (HX : Byt xs) (HS : Sl W a len cap xs) (hk : k < len) :
    Calls Try.prog 91 #[.slice a len cap, .int .i64 (k : Int)] W fun r W' => r = .returned (rnT k (xs.drop k)) ∧ Below W.heap.size W W' := by
  obtain ⟨h1, h2, h3, h4⟩ := HS
  rcases h4 with ⟨rfl, rfl, rfl⟩ | ⟨b, off, rfl, h4⟩
  · omega
  · exact rnext_w hk h3 (hide (byt_drop HX k)) (hide (by rw [List.length_drop, h1])) (hide fun j hj => by rw [getD_drop]; exact h4 (k + j) (by omega))
/-- What the reference's Count answers. -/
def rcN : Option Nat → Int
  | some n => (n : Int)
  | none => -1
set_option maxHeartbeats 1000000 in
set_option maxRecDepth 100000 in
theorem rcount_any {a : Option Addr} {len cap : Nat} {xs : List Int} {W : World} (HX : Hid (Byt xs)) (HS : Hid (Sl W a len cap xs)) :
    Calls Try.prog 76 #[.slice a len cap] W fun r W' => r = .returned (.int .i64 (rcN (cnt xs))) ∧ Below W.heap.size W W' := by
  have hl : len ≤ 140737488355328 := (unhide HS).2.2.1
  have HL : Hid (xs.length = len) := hide (unhide HS).1
  have HT : Hid (∃ T, cnt xs = T) := hide ⟨_, rfl⟩
  obtain ⟨T, hT⟩ := unhide HT
  rw [hT]
  have HT := hide hT
  clear hT
  go_enter Try.func76, Try.ntmps76
  go_wp2_with fail
  go_loopw [3, 4] (fun v3 v4 wr => ∃ pos n : Nat, v3 = .int .i64 (n : Int) ∧ v4 = .int .i64 (pos : Int) ∧ pos ≤ len ∧ n ≤ pos ∧ T = (cnt (xs.drop pos)).map (· + n) ∧ Below W.heap.size W wr) (fun _ v4 _ => len - (intOf v4).toNat)
  case atStart => exact ⟨0, 0, rfl, rfl, by omega, by omega, by rw [List.drop_zero, unhide HT]; cases T <;> rfl, Below.refl _ _⟩
  case round =>
    obtain ⟨pos, n, rfl, rfl, hp, hn, hT, hB⟩ := hrel
    have HB := hide hB
    have HT := hide hT
    clear hB hT
    by_cases hlt : pos < len
    · have HN := hide (rnext_any (k := pos) (unhide HX) ((unhide HS).below (unhide HB)) hlt)
      have hlen : 1 ≤ (xs.drop pos).length := by rw [List.length_drop, unhide HL]; omega
      have hne : xs.drop pos ≠ [] := fun e => by rw [e] at hlen; simp at hlen
      have hle := dc_le (byt_drop (unhide HX) pos) hlen
      have hpo := dc_pos (xs.drop pos)
      rw [List.length_drop, unhide HL] at hle
      cases hc : isC (xs.drop pos)
      · rw [cnt_bad hne hc] at HT
        have e : rnT pos (xs.drop pos) = .tuple #[.int .i64 (-1), .int .i64 0] := by unfold rnT; rw [if_neg (by rw [hc]; decide)]
        rw [e] at HN
        clear e hne hlen hc hle hpo
        go_wp2_with fail
        refine (unhide HN).mono ?_
        rintro _ w1 ⟨rfl, hb⟩
        have HB := hide (bthen (unhide HB) hb)
        clear hb
        go_wp2_with fail
        exact bodyPost_ret (v := .int .i64 (-1)) (by simp [results, Try.results76, go_sem]) rfl ⟨by rw [unhide HT]; rfl, unhide HB⟩
      · rw [cnt_ok hne hc, List.drop_drop, map_two] at HT
        have e : rnT pos (xs.drop pos) = .tuple #[.int .i64 ((dc (xs.drop pos)).1 : Int), .int .i64 ((pos + (dc (xs.drop pos)).2 : Nat) : Int)] := by unfold rnT; rw [if_pos hc]; rfl
        rw [e] at HN
        clear e hne hlen hc
        generalize (dc (xs.drop pos)).1 = c at *
        generalize (dc (xs.drop pos)).2 = wd at *
        go_wp2_with fail
        refine (unhide HN).mono ?_
        rintro _ w1 ⟨rfl, hb⟩
        have HB := hide (bthen (unhide HB) hb)
        clear hb
        go_wp2_with fail
        refine ⟨⟨pos + wd, n + 1, by go_num, by go_num, by omega, by omega, unhide HT, unhide HB⟩, by simp [intOf]; omega⟩
    · obtain rfl : pos = len := by omega
      rw [List.drop_of_length_le (by rw [unhide HL]; omega), cnt_nil] at HT
      go_wp2_with fail
      exact bodyPost_ret (v := .int .i64 (n : Int)) (by simp [results, Try.results76, go_sem]) rfl ⟨by rw [unhide HT]; show _ = Ending.returned (.int .i64 ((0 + n : Nat) : Int)); rw [Nat.zero_add], unhide HB⟩
end Go.Proofs.Ytphgljhlamjmgaa
