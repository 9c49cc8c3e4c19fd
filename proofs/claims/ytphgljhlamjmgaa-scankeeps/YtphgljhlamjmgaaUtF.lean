/- The walks of Put and the reference's Put. -/
import Derived.Test.YtphgljhlamjmgaaUtE
namespace Go.Proofs.Ytphgljhlamjmgaa
open Go.RowKit

theorem enc_put {c : Int} (h : sz c ≠ 0) : Utf8.encode c = strOfNums (put c) := by
  have hv : Utf8.valid c = true := by
    rw [validRune_eq]
    unfold validRune
    refine decide_eq_true ?_
    rcases sz_ways c with k | k | k | k | k <;> omega
  have h0 : 0 ≤ c := by rcases sz_ways c with k | k | k | k | k <;> omega
  obtain ⟨n, rfl⟩ := Int.eq_ofNat_of_zero_le h0
  unfold Utf8.encode put
  simp only [hv, if_true, Int.toNat_natCast]
  rcases sz_ways (n : Int) with k | k | k | k | k
  · exact absurd k.1 h
  · rw [k.1, if_pos (by omega)]
    rfl
  · rw [k.1, if_neg (by omega), if_pos (by omega)]
    show _ = strOfNums [192 + (n : Int) / 64, 128 + (n : Int) % 64]
    unfold strOfNums
    simp only [List.map_cons, List.map_nil]
    rw [show ((192 : Int) + (n : Int) / 64).toNat = 192 + n / 64 by omega, show ((128 : Int) + (n : Int) % 64).toNat = 128 + n % 64 by omega]
  · rw [k.1, if_neg (by omega), if_neg (by omega), if_pos (by omega)]
    show _ = strOfNums [224 + (n : Int) / 4096, 128 + (n : Int) / 64 % 64, 128 + (n : Int) % 64]
    unfold strOfNums
    simp only [List.map_cons, List.map_nil]
    rw [show ((224 : Int) + (n : Int) / 4096).toNat = 224 + n / 4096 by omega, show ((128 : Int) + (n : Int) / 64 % 64).toNat = 128 + n / 64 % 64 by omega, show ((128 : Int) + (n : Int) % 64).toNat = 128 + n % 64 by omega]
  · rw [k.1, if_neg (by omega), if_neg (by omega), if_neg (by omega)]
    show _ = strOfNums [240 + (n : Int) / 262144, 128 + (n : Int) / 4096 % 64, 128 + (n : Int) / 64 % 64, 128 + (n : Int) % 64]
    unfold strOfNums
    simp only [List.map_cons, List.map_nil]
    rw [show ((240 : Int) + (n : Int) / 262144).toNat = 240 + n / 262144 by omega, show ((128 : Int) + (n : Int) / 4096 % 64).toNat = 128 + n / 4096 % 64 by omega, show ((128 : Int) + (n : Int) / 64 % 64).toNat = 128 + n / 64 % 64 by omega, show ((128 : Int) + (n : Int) % 64).toNat = 128 + n % 64 by omega]
theorem row_at (xs : List Int) (hb : Byt xs) (cap j : Nat) (hj : j < xs.length) : (bytesRow (strOfNums xs) cap)[j]? = some (.int .u8 (xs.getD j 0)) := by
  have h := hb.at0 j
  unfold bytesRow strOfNums
  rw [Array.getElem?_append_left (by simp; exact hj)]
  simp only [List.map_toArray, List.map_map, List.getElem?_toArray, List.getElem?_map]
  rw [List.getD_eq_getElem?_getD, List.getElem?_eq_getElem hj] at *
  show some (Value.int .u8 ((UInt8.ofNat (xs[j]).toNat).toNat : Int)) = some (Value.int .u8 xs[j])
  have h' : 0 ≤ xs[j] ∧ xs[j] < 256 := h
  rw [UInt8.toNat_ofNat', Nat.mod_eq_of_lt (by omega), Int.toNat_of_nonneg h'.1]
/-- A text made a row of bytes. -/
theorem conv_row (W : World) (xs : List Int) (hb : Byt xs) (hl : xs.length ≤ 1000) : ∃ cap W1, (convert 9 22 (.string (strOfNums xs))).run Try.prog W = .ok (.slice (some ⟨W.heap.size, 0, none⟩) xs.length cap) W1 ∧ Sl W1 (some ⟨W.heap.size, 0, none⟩) xs.length cap xs ∧ Below W.heap.size W W1 := by
  have h := run_bytes_of_string (P := Try.prog) W 9 22 5 (strOfNums xs) Try.underlying9 Try.underlying22 Try.underlying5
  rw [strOfNums_size] at h
  refine ⟨_, _, h, ⟨rfl, ?_, by omega, Or.inr ⟨W.heap.size, 0, rfl, fun j hj => ?_⟩⟩, ?_⟩
  · exact grownCap_ge _ _ _ _
  · rw [Nat.zero_add]
    refine (World.cell?_alloc_mark W.drew _ _ _ j).trans ?_
    exact row_at xs hb _ j hj
  · exact ((Below.refl _ _).drew).alloc (Nat.le_refl _) _
/-- What the reference's Put answers. -/
def RPut (c : Int) : Prop := ∀ W, Calls Try.prog 93 #[.int .i64 c] W fun r W' => ∃ a cap, r = .returned (.slice a (sz c) cap) ∧ Sl W' a (sz c) cap (put c) ∧ Below W.heap.size W W'
theorem sl_none (w : World) : Sl w none 0 0 [] := ⟨rfl, Nat.le_refl _, Nat.zero_le _, Or.inl ⟨rfl, rfl, rfl⟩⟩
set_option maxHeartbeats 1000000 in
set_option maxRecDepth 100000 in
theorem rput_any (c : Int) : RPut c := by
  intro W
  unfold put
  rcases sz_ways c with ⟨e, h⟩ | ⟨e, h1, h2⟩ | ⟨e, h1, h2⟩ | ⟨e, h1, h2, h3⟩ | ⟨e, h1, h2⟩
  · rw [e]
    clear e
    show Calls Try.prog 93 #[.int .i64 c] W fun r W' => ∃ a cap, r = .returned (.slice a 0 cap) ∧ Sl W' a 0 cap [] ∧ Below W.heap.size W W'
    rcases h with h | h | h
    · have a1 : decide (c < 0) = true := decide_eq_true h
      clear h
      go_enter Try.func93, Try.ntmps93
      go_wp2_with fail
      go_ret
      exact ⟨_, _, rfl, sl_none W, Below.refl _ _⟩
    · have a1 : decide (c < 0) = false := decide_eq_false (by omega)
      have a2 : decide (1114111 < c) = false := decide_eq_false (by omega)
      have a3 : decide (55296 ≤ c) = true := decide_eq_true (by omega)
      have a4 : decide (c ≤ 57343) = true := decide_eq_true (by omega)
      clear h
      go_enter Try.func93, Try.ntmps93
      go_wp2_with fail
      go_ret
      exact ⟨_, _, rfl, sl_none W, Below.refl _ _⟩
    · have a1 : decide (c < 0) = false := decide_eq_false (by omega)
      have a2 : decide (1114111 < c) = true := decide_eq_true (by omega)
      clear h
      go_enter Try.func93, Try.ntmps93
      go_wp2_with fail
      go_ret
      exact ⟨_, _, rfl, sl_none W, Below.refl _ _⟩
  · rw [e]
    clear e
    show Calls Try.prog 93 #[.int .i64 c] W fun r W' => ∃ a cap, r = .returned (.slice a 1 cap) ∧ Sl W' a 1 cap [c] ∧ Below W.heap.size W W'
    have a1 : decide (c < 0) = false := decide_eq_false (by omega)
    have a2 : decide (1114111 < c) = false := decide_eq_false (by omega)
    have a3 : decide (55296 ≤ c) = false := decide_eq_false (by omega)
    have b1 : c < 128 := by omega
    go_enter Try.func93, Try.ntmps93
    go_wp2_with fail
    go_ret
    exact ⟨_, _, rfl, sl_lit W [c] 1 rfl (by omega), below1 _ _⟩
  · rw [e]
    clear e
    show Calls Try.prog 93 #[.int .i64 c] W fun r W' => ∃ a cap, r = .returned (.slice a 2 cap) ∧ Sl W' a 2 cap [192 + c / 64, 128 + c % 64] ∧ Below W.heap.size W W'
    have a1 : decide (c < 0) = false := decide_eq_false (by omega)
    have a2 : decide (1114111 < c) = false := decide_eq_false (by omega)
    have a3 : decide (55296 ≤ c) = false := decide_eq_false (by omega)
    have b1 : ¬ c < 128 := by omega
    have b2 : c < 2048 := by omega
    go_enter Try.func93, Try.ntmps93
    go_wp2_with fail
    go_ret
    exact ⟨_, _, rfl, sl_lit W [192 + c / 64, 128 + c % 64] 2 rfl (by omega), below1 _ _⟩
  · rw [e]
    clear e
    show Calls Try.prog 93 #[.int .i64 c] W fun r W' => ∃ a cap, r = .returned (.slice a 3 cap) ∧ Sl W' a 3 cap [224 + c / 4096, 128 + c / 64 % 64, 128 + c % 64] ∧ Below W.heap.size W W'
    by_cases h : 55296 ≤ c
    · have a1 : decide (c < 0) = false := decide_eq_false (by omega)
      have a2 : decide (1114111 < c) = false := decide_eq_false (by omega)
      have a3 : decide (55296 ≤ c) = true := decide_eq_true (by omega)
      have a4 : decide (c ≤ 57343) = false := decide_eq_false (by omega)
      have b1 : ¬ c < 128 := by omega
      have b2 : ¬ c < 2048 := by omega
      have b3 : c < 65536 := by omega
      go_enter Try.func93, Try.ntmps93
      go_wp2_with fail
      go_ret
      exact ⟨_, _, rfl, sl_lit W [224 + c / 4096, 128 + c / 64 % 64, 128 + c % 64] 3 rfl (by omega), below1 _ _⟩
    · have a1 : decide (c < 0) = false := decide_eq_false (by omega)
      have a2 : decide (1114111 < c) = false := decide_eq_false (by omega)
      have a3 : decide (55296 ≤ c) = false := decide_eq_false (by omega)
      have b1 : ¬ c < 128 := by omega
      have b2 : ¬ c < 2048 := by omega
      have b3 : c < 65536 := by omega
      go_enter Try.func93, Try.ntmps93
      go_wp2_with fail
      go_ret
      exact ⟨_, _, rfl, sl_lit W [224 + c / 4096, 128 + c / 64 % 64, 128 + c % 64] 3 rfl (by omega), below1 _ _⟩
  · rw [e]
    clear e
    show Calls Try.prog 93 #[.int .i64 c] W fun r W' => ∃ a cap, r = .returned (.slice a 4 cap) ∧ Sl W' a 4 cap [240 + c / 262144, 128 + c / 4096 % 64, 128 + c / 64 % 64, 128 + c % 64] ∧ Below W.heap.size W W'
    have a1 : decide (c < 0) = false := decide_eq_false (by omega)
    have a2 : decide (1114111 < c) = false := decide_eq_false (by omega)
    have a3 : decide (55296 ≤ c) = true := decide_eq_true (by omega)
    have a4 : decide (c ≤ 57343) = false := decide_eq_false (by omega)
    have b1 : ¬ c < 128 := by omega
    have b2 : ¬ c < 2048 := by omega
    have b3 : ¬ c < 65536 := by omega
    go_enter Try.func93, Try.ntmps93
    go_wp2_with fail
    go_ret
    exact ⟨_, _, rfl, sl_lit W [240 + c / 262144, 128 + c / 4096 % 64, 128 + c / 64 % 64, 128 + c % 64] 4 rfl (by omega), below1 _ _⟩
end Go.Proofs.Ytphgljhlamjmgaa
