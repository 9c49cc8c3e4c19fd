/- LbS. -/
import Derived.Test.YtjoonmpjcophnaaGreatDoorUa08
namespace Go.Proofs.YtjoonmpjcophnaaGreatDoor
open Go.RowKit

set_option maxHeartbeats 1000000 in
set_option maxRecDepth 100000 in
theorem readS_end {V : Int → Int} {ok : Int → Nat → Bool} {a : Option Addr} {len cap bits : Nat} {xs : List Int} {W : World} (HS : Hid (Sl W a len cap xs)) (b0 : 1 ≤ bits) (b1 : bits ≤ 64) :
    Calls Tryz.prog 96 #[.slice a len cap, .int .i64 (len : Int), .int .i64 (bits : Int), .func (.func 189) #[] #[]] W fun r W' => r = .returned (outT len (rd V ok (xs.drop len) bits)) ∧ Below W.heap.size W W' := by
  have hl : len ≤ 140737488355328 := (unhide HS).2.2.1
  have hc : len ≤ cap := (unhide HS).2.1
  have HE : Hid (outT len (rd V ok (xs.drop len) bits) = .tuple #[.int .u64 0, .int .i64 0, .int .i64 100]) := hide (by rw [← (unhide HS).1, List.drop_length]; rfl)
  rw [unhide HE]
  rcases (unhide HS).2.2.2 with ⟨rfl, rfl, rfl⟩ | ⟨b, off, rfl, -⟩
  · go_enter Tryz.func96, Tryz.ntmps96
    go_wp2_with fail
    go_loop [37] (fun i => i = .int .i64 0) (fun _ => 0)
    case atStart => rfl
    case round =>
      subst hrel
      go_wp2_with fail
      exact bodyPost_ret (v := .tuple #[.int .u64 0, .int .i64 0, .int .i64 100]) (by simp [results, Tryz.results96, go_sem]) rfl ⟨rfl, Below.refl _ _⟩
  · by_cases h : cap = len
    all_goals
      go_enter Tryz.func96, Tryz.ntmps96
      go_wp2_with fail
      go_loop [37] (fun i => i = .int .i64 0) (fun _ => 0)
      case atStart => rfl
      case round =>
        subst hrel
        go_wp2_with fail
        exact bodyPost_ret (v := .tuple #[.int .u64 0, .int .i64 0, .int .i64 100]) (by simp [results, Tryz.results96, go_sem]) rfl ⟨rfl, Below.refl _ _⟩
set_option maxHeartbeats 1000000 in
set_option maxRecDepth 100000 in
theorem readS_in {V : Int → Int} {ok : Int → Nat → Bool} (HF : Hid (∀ c n : Nat, c < 128 → 1 ≤ n → n ≤ 64 → Ct 189 #[.int .u8 (c : Int), .int .i64 (n : Int)] (.tuple #[.int .u64 (V c % 18446744073709551616), .bool (ok c n)])))
    {a : Option Addr} {len cap k bits : Nat} {xs : List Int} {W : World} (HX : Hid (Byt xs)) (HS : Hid (Sl W a len cap xs)) (hk : k < len) (b0 : 1 ≤ bits) (b1 : bits ≤ 64) :
    Calls Tryz.prog 96 #[.slice a len cap, .int .i64 (k : Int), .int .i64 (bits : Int), .func (.func 189) #[] #[]] W fun r W' => r = .returned (outT k (rd V ok (xs.drop k) bits)) ∧ Below W.heap.size W W' := by
  have hl : len ≤ 140737488355328 := (unhide HS).2.2.1
  have hc : ¬ cap = k := by have := (unhide HS).2.1; omega
  have hcl : k ≤ cap := by have := (unhide HS).2.1; omega
  have HL : Hid (xs.length = len) := hide (unhide HS).1
  rcases (unhide HS).2.2.2 with ⟨rfl, rfl, rfl⟩ | ⟨b, off, rfl, h4⟩
  · omega
  have H4 := hide h4
  clear h4
  have HT : Hid (∃ T, rd V ok (xs.drop k) bits = T) := hide ⟨_, rfl⟩
  obtain ⟨T, hT⟩ := unhide HT
  rw [hT]
  have HT := hide hT
  clear hT
  go_enter Tryz.func96, Tryz.ntmps96
  go_wp2_with fail
  go_loopw [8, 37] (fun v8 v37 wr => ∃ i n : Nat, k + i ≤ len ∧ v37 = .int .i64 (i : Int) ∧ v8 = .int .u64 (n : Int) ∧ n < 2 ^ (7 * i) ∧ 7 * i < bits ∧ T = ups n i (rd V ok (xs.drop (k + i)) (bits - 7 * i)) ∧ Below W.heap.size W wr) (fun _ i _ => len - k - (intOf i).toNat)
  case atStart => exact ⟨0, 0, by omega, rfl, rfl, by simp, by omega, by rw [← unhide HT]; exact ups_zero _ _, Below.refl _ _⟩
  case round =>
    obtain ⟨i, n, hi, rfl, rfl, hn, hb7, hT, hB⟩ := hrel
    have HB := hide hB
    have HTi := hide hT
    have HN := hide hn
    clear hB hT hn
    by_cases hlt : k + i < len
    · have hcell := unhide H4 (k + i) hlt
      have HBy := hide ((unhide HX).at (k + i) (by rw [unhide HL]; exact hlt))
      have HD := hide (drop_at xs (k + i) (by rw [unhide HL]; exact hlt))
      rw [(unhide HB).cell (World.block_lt_of_cell? W _ hcell) |>.symm] at hcell
      rw [← Nat.add_assoc] at hcell
      rw [unhide HD] at HTi
      clear HD
      obtain ⟨x, hx⟩ := Int.eq_ofNat_of_zero_le (unhide HBy).1
      rw [hx] at hcell HTi HBy
      have x256 : x < 256 := by have := (unhide HBy).2; omega
      clear hx HBy
      have eL : ((bits - 7 * i : Nat) : Int) = (bits : Int) - 7 * (i : Int) := by omega
      by_cases h128 : x < 128
      · have hx1 : (x : Int) < 128 := by omega
        have HC := unhide HF x (bits - 7 * i) h128 (by omega) (by omega)
        obtain ⟨t, ht⟩ := Int.eq_ofNat_of_zero_le (Int.emod_nonneg (V x) (show (18446744073709551616 : Int) ≠ 0 by omega))
        rw [ht, eL] at HC
        clear eL
        have HVt := hide ht
        clear ht
        cases hok : ok x (bits - 7 * i)
        · have HR := hide (ups_wrong (unhide HTi) hx1 hok)
          rw [hok] at HC
          clear hok
          go_wp2_with fail
          refine (unhide HC _).mono ?_
          rintro _ w1 ⟨rfl, hb1⟩
          have HB := hide (bthen (unhide HB) hb1)
          clear hb1
          go_wp2_with fail
          exact bodyPost_ret (v := .tuple #[.int .u64 0, .int .i64 0, .int .i64 101]) (by simp [results, Tryz.results96, go_sem]) rfl ⟨by rw [unhide HR]; rfl, unhide HB⟩
        · have HR := hide (ups_last (unhide HTi) hx1 hok)
          rw [hok] at HC
          clear hok
          go_wp2_with fail
          refine (unhide HC _).mono ?_
          rintro _ w1 ⟨rfl, hb1⟩
          have HB := hide (bthen (unhide HB) hb1)
          clear hb1
          go_wp2_with fail
          refine bodyPost_ret (v := .tuple #[.int .u64 _, .int .i64 _, .int .i64 0]) (by simp [results, Tryz.results96, go_sem]; exact ⟨rfl, rfl⟩) rfl ⟨?_, unhide HB⟩
          rw [unhide HR, or_shl (unhide HN) (by omega), last_val i n t (unhide HVt)]
          exact congrArg Ending.returned (out_ok _ k i)
      · have hx1 : ¬ (x : Int) < 128 := by omega
        by_cases h7 : bits - 7 * i ≤ 7
        · have HR := hide (ups_long (unhide HTi) hx1 h7)
          go_wp2_with fail
          exact bodyPost_ret (v := .tuple #[.int .u64 0, .int .i64 0, .int .i64 101]) (by simp [results, Tryz.results96, go_sem]) rfl ⟨by rw [unhide HR]; rfl, unhide HB⟩
        · have HR := hide (ups_step (unhide HTi) hx1 h7)
          go_wp2_with fail
          obtain ⟨y, rfl⟩ : ∃ y, x = 128 + y := ⟨x - 128, by omega⟩
          have hs := step_val (y := y) (unhide HN) (show 7 * (i + 1) < 64 by omega) (by omega)
          refine ⟨⟨i + 1, n + y * 2 ^ (7 * i), by omega, by go_num, ?_, hs.2, by omega, ?_, unhide HB⟩, by simp [intOf]; omega⟩
          · rw [show (((128 + y : Nat) : Int) - 128) = (y : Int) by omega, or_shl (unhide HN) (by omega), hs.1]
          · rw [unhide HR, ← Nat.add_assoc]
            congr 1
            rw [pow7, show (((128 + y : Nat) : Int) - 128) = (y : Int) by omega, Int.natCast_add, Int.natCast_mul, Int.natCast_pow, Int.mul_comm]
            rfl
    · have hin : k + i = len := by omega
      have HR := hide (ups_end (b := bits) (V := V) (ok := ok) (n := n) (i := i) (T := T) (by rw [unhide HTi, hin, ← unhide HL, List.drop_length]))
      go_wp2_with fail
      exact bodyPost_ret (v := .tuple #[.int .u64 0, .int .i64 0, .int .i64 100]) (by simp [results, Tryz.results96, go_sem]) rfl ⟨by rw [unhide HR]; rfl, unhide HB⟩
end Go.Proofs.YtjoonmpjcophnaaGreatDoor
