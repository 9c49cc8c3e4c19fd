/- What Extend answers, the program's and the reference's; runs. -/
import Derived.Test.YtjlegmgpgfjciaaDoorInG
import Derived.Test.YtjlegmgpgfjciaaDoorInH
import Derived.Test.YtjlegmgpgfjciaaDoorInF
namespace Go.Proofs.YtjlegmgpgfjciaaDoor
open Go.RowKit

/-- How many lowest bits may be made a number of more. -/
def Pc (f : Int) (m : Nat) : Prop := (f = 8 ∧ m = 8) ∨ (f = 16 ∧ m = 16) ∨ (f = 32 ∧ m = 32) ∨ (f = 64 ∧ m = 64)
theorem pc_or (f : Int) : (¬ f = 8 ∧ ¬ f = 16 ∧ ¬ f = 32 ∧ ¬ f = 64) ∨ ∃ m, Pc f m := by
  by_cases h1 : f = 8
  · exact Or.inr ⟨_, Or.inl ⟨h1, rfl⟩⟩
  · by_cases h2 : f = 16
    · exact Or.inr ⟨_, Or.inr (Or.inl ⟨h2, rfl⟩)⟩
    · by_cases h3 : f = 32
      · exact Or.inr ⟨_, Or.inr (Or.inr (Or.inl ⟨h3, rfl⟩))⟩
      · by_cases h4 : f = 64
        · exact Or.inr ⟨_, Or.inr (Or.inr (Or.inr ⟨h4, rfl⟩))⟩
        · exact Or.inl ⟨h1, h2, h3, h4⟩
theorem piece_K {f : Int} {m : Nat} (p : Pc f m) : Ct 31 #[.int .i64 f] (.bool true) ∧ f = (m : Int) ∧ 8 ≤ m ∧ m ≤ 64 := by
  rcases p with ⟨rfl, rfl⟩ | ⟨rfl, rfl⟩ | ⟨rfl, rfl⟩ | ⟨rfl, rfl⟩
  · exact ⟨piece_8, by omega, by omega, by omega⟩
  · exact ⟨piece_16, by omega, by omega, by omega⟩
  · exact ⟨piece_32, by omega, by omega, by omega⟩
  · exact ⟨piece_64, by omega, by omega, by omega⟩
theorem ext_bits {b m n i : Nat} (m0 : 1 ≤ m) (m1 : m ≤ n) (n1 : n ≤ 64) (hi : i < n) : (sarN (shlN b 64 (64 - m)) 64 (64 - m)).testBit i = extG b m true i ∧ (shrN (shlN b 64 (64 - m)) (64 - m)).testBit i = extG b m false i := by
  unfold extG
  rw [sar_bit (shl_lt _ _ _) (by omega) (by omega), shr_bit, shl_bit, shl_bit]
  by_cases h : i < m
  · rw [if_pos (by omega), if_pos h, if_pos h, decide_eq_true (show i + (64 - m) < 64 by omega), decide_eq_true (show 64 - m ≤ i + (64 - m) by omega), Nat.add_sub_cancel]
    simp
  · rw [if_neg (by omega), if_neg h, if_neg h, decide_eq_true (show 64 - 1 < 64 by omega), decide_eq_true (show 64 - m ≤ 64 - 1 by omega), decide_eq_false (show ¬ i + (64 - m) < 64 by omega), show 64 - 1 - (64 - m) = m - 1 by omega]
    simp
theorem ext_num {n x : Nat} {g : Nat → Bool} (h : ∀ i, i < n → x.testBit i = g i) : x % 2 ^ n = num g n := by
  refine (num_eq (Nat.mod_lt _ (Nat.two_pow_pos n)) (fun i hi => ?_)).symm
  rw [Nat.testBit_mod_two_pow, decide_eq_true hi, Bool.true_and]
  exact h i hi
/-- What stands ahead of the last cut. -/
theorem ext_pre {f : Int} {m b : Nat} (p : Pc f m) (hb : b < 18446744073709551616) : ∃ d u : Int, IntKind.i64.wrap (64 - f) = d ∧ IntKind.u64.wrap d = u ∧ Ct 32 #[.int .i64 64, .int .u64 (b : Int), .int .u64 u] (.int .u64 ((shlN b 64 (64 - m) : Nat) : Int)) ∧
    Ct 18 #[.int .i64 64, .int .u64 ((shlN b 64 (64 - m) : Nat) : Int), .int .u64 u] (.int .u64 ((sarN (shlN b 64 (64 - m)) 64 (64 - m) : Nat) : Int)) ∧ Ct 33 #[.int .i64 64, .int .u64 ((shlN b 64 (64 - m) : Nat) : Int), .int .u64 u] (.int .u64 ((shrN (shlN b 64 (64 - m)) (64 - m) : Nat) : Int)) := by
  obtain ⟨-, hf, h8, h64⟩ := piece_K p
  have k := (show Wm 64 64 9223372036854775808 18446744073709551616 from Or.inr ⟨rfl, rfl, rfl, rfl⟩)
  have hu : (((64 - m : Nat) : Int)) % 64 = ((64 - m : Nat) : Int) := by omega
  have hur : Rg ((64 - m : Nat) : Int) := by unfold Rg; omega
  have hs := shl_lt b 64 (64 - m)
  have e : ((shlN b 64 (64 - m) : Nat) : Int) % 18446744073709551616 = ((shlN b 64 (64 - m) : Nat) : Int) := by omega
  refine ⟨((64 - m : Nat) : Int), ((64 - m : Nat) : Int), by rw [IntKind.wrap_i64]; omega, by rw [IntKind.wrap_u64]; omega, shl_any k (show (b : Int) % 18446744073709551616 = (b : Int) by omega) hu hur, sar_any k e hu hur, shr_any k e hu hur (rg_nat k hs)⟩
theorem ext_K {w H M : Int} {n : Nat} (k : Wm w n H M) {f : Int} {m b : Nat} (p : Pc f m) (hb : b < 18446744073709551616) (g : m ≤ n) (sg : Bool) : Ct 10 #[.int .i64 w, .int .i64 f, .int .u64 (b : Int), .bool sg] (.int .u64 ((num (extG b m sg) n : Nat) : Int)) := by
  obtain ⟨HP, hf, h8, h64⟩ := piece_K p
  obtain ⟨d, u, hd, hu, HL, HS, HU⟩ := ext_pre p hb
  obtain ⟨-, k2, k3, -, k5, -⟩ := k.two
  have hs := shl_lt b 64 (64 - m)
  cases sg
  · have hl := shr_lt (64 - m) hs
    refine ct_eq (ext_f HP (by omega) hd hu HL HU (cut_K k (by unfold Rg; omega))) ?_
    rw [k2, ← Int.natCast_emod, ext_num (fun i hi => (ext_bits (by omega) g k5 hi).2)]
  · have hl := sar_lt hs (show 64 - m < 64 by omega)
    refine ct_eq (ext_t HP (by omega) hd hu HL HS (cut_K k (by unfold Rg; omega))) ?_
    rw [k2, ← Int.natCast_emod, ext_num (fun i hi => (ext_bits (by omega) g k5 hi).1)]
theorem ext_N {w f : Int} {m b : Nat} (k : No w) (p : Pc f m) (hb : b < 18446744073709551616) (g : f ≤ w) (sg : Bool) : Ct 10 #[.int .i64 w, .int .i64 f, .int .u64 (b : Int), .bool sg] (.int .u64 0) := by
  obtain ⟨HP, hf, h8, h64⟩ := piece_K p
  obtain ⟨d, u, hd, hu, HL, HS, HU⟩ := ext_pre p hb
  have hs := shl_lt b 64 (64 - m)
  cases sg
  · have hl := shr_lt (64 - m) hs
    exact ext_f HP g hd hu HL HU (cut_N k (by unfold Rg; omega))
  · have hl := sar_lt hs (show 64 - m < 64 by omega)
    exact ext_t HP g hd hu HL HS (cut_N k (by unfold Rg; omega))
theorem bf {x c : Int} (h : ¬ x = c) : (x == c) = false := by simpa using h
theorem bn {x c : Int} (h : ¬ x = c) : (x != c) = true := by simpa using h
/-- Of another piece, or of one that is too long: 0. -/
theorem ext_0 (w f : Int) (b : Nat) (sg : Bool) (h : (¬ f = 8 ∧ ¬ f = 16 ∧ ¬ f = 32 ∧ ¬ f = 64) ∨ ((∃ m, Pc f m) ∧ w < f)) : Ct 10 #[.int .i64 w, .int .i64 f, .int .u64 (b : Int), .bool sg] (.int .u64 0) ∧ Ct 16 #[.int .i64 w, .int .i64 f, .int .u64 (b : Int), .bool sg] (.int .u64 0) := by
  rcases h with ⟨h1, h2, h3, h4⟩ | ⟨⟨m, p⟩, g⟩
  · exact ⟨ext_no (piece_no (bf h1) (bf h2) (bf h3) (bf h4)), rext_no (bn h1) (bn h2) (bn h3) (bn h4)⟩
  · refine ⟨ext_gt (piece_K p).1 g, ?_⟩
    rcases p with ⟨rfl, rfl⟩ | ⟨rfl, rfl⟩ | ⟨rfl, rfl⟩ | ⟨rfl, rfl⟩
    · exact rext_gt8 g
    · exact rext_gt16 g
    · exact rext_gt32 g
    · exact rext_gt64 g
theorem bits_K {w H M : Int} {n : Nat} (k : Wm w n H M) {a : Int} {A : Nat} (hr : Rg a) (ha : a % M = (A : Int)) : Hid (∀ W, Calls Tryd.prog 34 #[.int .i64 (n : Int), .int .u64 a] W fun e w' => ∃ s, e = .returned s ∧ HoldsB w' s A.testBit n ∧ Below W.heap.size W w') := by
  obtain ⟨-, k2, k3, k4, k5, -, k7⟩ := k.two
  have HC := rcut_K k hr
  have hA : A < 18446744073709551616 := by have := (k.cut a).2; omega
  rw [ha, k3] at HC
  exact bits_w k5 (by omega) hA HC
theorem rext_K {w H M : Int} {n : Nat} (k : Wm w n H M) {f : Int} {m b : Nat} (p : Pc f m) (hb : b < 18446744073709551616) (g : m ≤ n) (sg : Bool) : Ct 16 #[.int .i64 w, .int .i64 f, .int .u64 (b : Int), .bool sg] (.int .u64 ((num (extG b m sg) n : Nat) : Int)) := by
  obtain ⟨-, k2, k3, -, k5, -⟩ := k.two
  have HL := bits_K (show Wm 64 64 9223372036854775808 18446744073709551616 from Or.inr ⟨rfl, rfl, rfl, rfl⟩) (a := (b : Int)) (A := b) (by unfold Rg; omega) (by omega)
  rw [k3]
  rcases p with ⟨rfl, rfl⟩ | ⟨rfl, rfl⟩ | ⟨rfl, rfl⟩ | ⟨rfl, rfl⟩
  · cases sg
    · exact rext_8f k5 g HL (of_w k5)
    · exact rext_8t k5 g HL (of_w k5)
  · cases sg
    · exact rext_16f k5 g HL (of_w k5)
    · exact rext_16t k5 g HL (of_w k5)
  · cases sg
    · exact rext_32f k5 g HL (of_w k5)
    · exact rext_32t k5 g HL (of_w k5)
  · cases sg
    · exact rext_64f k5 g HL (of_w k5)
    · exact rext_64t k5 g HL (of_w k5)
theorem run_up {n A : Nat} (hA : A < 2 ^ n) : (∀ i, i < n - Go.bitLen A → A.testBit (if true then n - 1 - i else i) = false) ∧ (n - Go.bitLen A < n → A.testBit (if true then n - 1 - (n - Go.bitLen A) else n - Go.bitLen A) = true) := by
  obtain ⟨l1, l2⟩ := Go.bitLen_spec A
  have hL := len_le hA
  refine ⟨fun i hi => ?_, fun h => ?_⟩
  · rw [if_pos rfl]
    exact bit_out l1 (by omega)
  · have h0 : A ≠ 0 := fun h0 => by subst h0; simp [Go.bitLen] at h
    rw [if_pos rfl, show n - 1 - (n - Go.bitLen A) = Go.bitLen A - 1 by omega, top_bit l1 (by omega)]
    exact decide_eq_true (l2 h0)
theorem run_dn {n b A : Nat} (hn : n ≤ 64) (hb : b < 18446744073709551616) (hA : b % 2 ^ n = A) : min n (Lib.ctz 64 b) ≤ n ∧ (∀ i, i < min n (Lib.ctz 64 b) → A.testBit (if false then n - 1 - i else i) = false) ∧ (min n (Lib.ctz 64 b) < n → A.testBit (if false then n - 1 - min n (Lib.ctz 64 b) else min n (Lib.ctz 64 b)) = true) := by
  refine ⟨Nat.min_le_left _ _, ?_⟩
  rcases ctz_low hn hb hA with ⟨rfl, hd⟩ | ⟨t, ht, htn, hodd, hz⟩
  · rw [hd]
    refine ⟨fun i _ => ?_, fun h => by omega⟩
    rw [if_neg (by decide), Nat.zero_testBit]
  · rw [ht]
    refine ⟨fun i hi => ?_, fun _ => ?_⟩
    · rw [if_neg (by decide)]
      have := Nat.testBit_mod_two_pow A t i
      rw [hz, Nat.zero_testBit, decide_eq_true hi, Bool.true_and] at this
      exact this.symm
    · rw [if_neg (by decide), tb_div]
      exact decide_eq_true hodd
end Go.Proofs.YtjlegmgpgfjciaaDoor
