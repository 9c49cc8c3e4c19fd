/- Characters and their bytes: plain arithmetic. -/
import GoSem.Core.Utf8
import Derived.Lib.DecodeN
import Derived.Test.YtphgljhlamjmgaaLbM
namespace Go.Proofs.Ytphgljhlamjmgaa

theorem Byt.at0 {xs : List Int} (h : Byt xs) (i : Nat) : 0 ≤ xs.getD i 0 ∧ xs.getD i 0 < 256 := by
  rw [List.getD_eq_getElem?_getD]
  by_cases hi : i < xs.length
  · rw [List.getElem?_eq_getElem hi]
    exact h _ (List.getElem_mem hi)
  · rw [List.getElem?_eq_none (by omega)]
    exact ⟨Int.le_refl _, by decide⟩
theorem byt_app {xs ys : List Int} (h : Byt xs) (k : Byt ys) : Byt (xs ++ ys) := fun x hx => (List.mem_append.1 hx).elim (h x) (k x)
theorem byt_take {xs : List Int} (h : Byt xs) (i : Nat) : Byt (xs.take i) := fun x hx => h x (List.mem_of_mem_take hx)
theorem byt_drop {xs : List Int} (h : Byt xs) (i : Nat) : Byt (xs.drop i) := fun x hx => h x (List.mem_of_mem_drop hx)
/-- How many bytes a character has; 0: it is none. -/
def sz (c : Int) : Nat := if c < 0 ∨ (55296 ≤ c ∧ c ≤ 57343) ∨ 1114111 < c then 0 else if c < 128 then 1 else if c < 2048 then 2 else if c < 65536 then 3 else 4
/-- A character's bytes. -/
def put (c : Int) : List Int :=
  if sz c = 0 then [] else if sz c = 1 then [c] else if sz c = 2 then [192 + c / 64, 128 + c % 64]
  else if sz c = 3 then [224 + c / 4096, 128 + c / 64 % 64, 128 + c % 64]
  else [240 + c / 262144, 128 + c / 4096 % 64, 128 + c / 64 % 64, 128 + c % 64]
/-- What bytes begin with, and its width. -/
def dc (l : List Int) : Nat × Nat := Lib.decodeN l.length (l.getD 0 0).toNat (l.getD 1 0).toNat (l.getD 2 0).toNat (l.getD 3 0).toNat
/-- The five kinds of numbers. -/
theorem sz_ways (c : Int) : (sz c = 0 ∧ (c < 0 ∨ (55296 ≤ c ∧ c ≤ 57343) ∨ 1114111 < c)) ∨ (sz c = 1 ∧ 0 ≤ c ∧ c < 128) ∨ (sz c = 2 ∧ 128 ≤ c ∧ c < 2048)
    ∨ (sz c = 3 ∧ 2048 ≤ c ∧ c < 65536 ∧ ¬ (55296 ≤ c ∧ c ≤ 57343)) ∨ (sz c = 4 ∧ 65536 ≤ c ∧ c ≤ 1114111) := by
  unfold sz
  repeat' split
  all_goals omega
theorem put_len (c : Int) : (put c).length = sz c := by
  unfold put
  rcases sz_ways c with h | h | h | h | h <;> rw [h.1] <;> rfl
theorem put_byt (c : Int) : Byt (put c) := by
  intro x hx
  unfold put at hx
  rcases sz_ways c with h | h | h | h | h <;> rw [h.1] at hx <;> simp at hx <;> omega
theorem sz_le (c : Int) : sz c ≤ 4 := by
  rcases sz_ways c with h | h | h | h | h <;> omega
theorem tail_64 {d : Nat} (h : d < 64) : (128 + d) / 64 = 2 := by omega
theorem tail_mod (d : Nat) (h : d < 64) : (128 + d) % 64 = d := by omega
set_option maxHeartbeats 4000000 in
set_option maxRecDepth 100000 in
/-- What begins with a character's bytes begins with that character. -/
theorem dc_put {c : Int} (h : sz c ≠ 0) (r : List Int) : dc (put c ++ r) = (c.toNat, sz c) := by
  unfold put dc
  rcases sz_ways c with k | k | k | k | k
  · exact absurd k.1 h
  · rw [k.1]
    simp only [Nat.reduceEqDiff, if_false, if_true, List.cons_append, List.nil_append, List.length_cons, List.getD_cons_zero, List.getD_cons_succ]
    unfold Lib.decodeN
    rw [if_pos (by omega)]
  · rw [k.1]
    simp only [Nat.reduceEqDiff, if_false, if_true, List.cons_append, List.nil_append, List.length_cons, List.getD_cons_zero, List.getD_cons_succ]
    obtain ⟨n, rfl⟩ := Int.eq_ofNat_of_zero_le (show 0 ≤ c by omega)
    rw [show ((192 : Int) + (n : Int) / 64).toNat = 192 + n / 64 by omega, show ((128 : Int) + (n : Int) % 64).toNat = 128 + n % 64 by omega]
    unfold Lib.decodeN
    rw [if_neg (by omega), if_pos (by omega), if_pos (by omega)]
    exact Prod.ext (by show _ = (n : Int).toNat; omega) rfl
  · rw [k.1]
    simp only [Nat.reduceEqDiff, if_false, if_true, List.cons_append, List.nil_append, List.length_cons, List.getD_cons_zero, List.getD_cons_succ]
    obtain ⟨n, rfl⟩ := Int.eq_ofNat_of_zero_le (show 0 ≤ c by omega)
    rw [show ((224 : Int) + (n : Int) / 4096).toNat = 224 + n / 4096 by omega, show ((128 : Int) + (n : Int) / 64 % 64).toNat = 128 + n / 64 % 64 by omega, show ((128 : Int) + (n : Int) % 64).toNat = 128 + n % 64 by omega]
    unfold Lib.decodeN
    rw [if_neg (by omega), if_neg (by omega), if_pos (by omega), if_pos (by omega)]
    exact Prod.ext (by show _ = (n : Int).toNat; omega) rfl
  · rw [k.1]
    simp only [Nat.reduceEqDiff, if_false, List.cons_append, List.nil_append, List.length_cons, List.getD_cons_zero, List.getD_cons_succ]
    obtain ⟨n, rfl⟩ := Int.eq_ofNat_of_zero_le (show 0 ≤ c by omega)
    rw [show ((240 : Int) + (n : Int) / 262144).toNat = 240 + n / 262144 by omega, show ((128 : Int) + (n : Int) / 4096 % 64).toNat = 128 + n / 4096 % 64 by omega, show ((128 : Int) + (n : Int) / 64 % 64).toNat = 128 + n / 64 % 64 by omega, show ((128 : Int) + (n : Int) % 64).toNat = 128 + n % 64 by omega]
    unfold Lib.decodeN
    rw [if_neg (by omega), if_neg (by omega), if_neg (by omega), if_pos (by omega), if_pos (by omega)]
    exact Prod.ext (by show _ = (n : Int).toNat; omega) rfl
theorem list_1 {l : List Int} (h : 1 ≤ l.length) : l = l.getD 0 0 :: l.drop 1 := by
  cases l with
  | nil => simp at h
  | cons x l => rfl
theorem list_2 {l : List Int} (h : 2 ≤ l.length) : l = l.getD 0 0 :: l.getD 1 0 :: l.drop 2 := by
  match l, h with
  | x :: y :: l, _ => rfl
theorem list_3 {l : List Int} (h : 3 ≤ l.length) : l = l.getD 0 0 :: l.getD 1 0 :: l.getD 2 0 :: l.drop 3 := by
  match l, h with
  | x :: y :: z :: l, _ => rfl
theorem list_4 {l : List Int} (h : 4 ≤ l.length) : l = l.getD 0 0 :: l.getD 1 0 :: l.getD 2 0 :: l.getD 3 0 :: l.drop 4 := by
  match l, h with
  | x :: y :: z :: u :: l, _ => rfl
theorem bad_sz : sz 65533 = 3 := by decide
set_option maxHeartbeats 4000000 in
set_option maxRecDepth 100000 in
/-- Bytes begin with a character's, or with none's. -/
theorem dc_ways {l : List Int} (hb : Byt l) (hn : 1 ≤ l.length) : (sz ((dc l).1 : Int) = (dc l).2 ∧ (dc l).2 ≠ 0 ∧ l = put ((dc l).1 : Int) ++ l.drop (dc l).2) ∨ dc l = (65533, 1) := by
  have h0 := hb.at0 0
  have h1 := hb.at0 1
  have h2 := hb.at0 2
  have h3 := hb.at0 3
  have L1 := list_1 hn
  have L2 := list_2 (l := l)
  have L3 := list_3 (l := l)
  have L4 := list_4 (l := l)
  unfold dc Lib.decodeN
  generalize hn' : l.length = n at *
  obtain ⟨a, ha⟩ := Int.eq_ofNat_of_zero_le h0.1
  obtain ⟨b, hb'⟩ := Int.eq_ofNat_of_zero_le h1.1
  obtain ⟨c, hc⟩ := Int.eq_ofNat_of_zero_le h2.1
  obtain ⟨d, hd⟩ := Int.eq_ofNat_of_zero_le h3.1
  rw [ha] at h0 L1 L2 L3 L4 ⊢
  rw [hb'] at h1 L2 L3 L4 ⊢
  rw [hc] at h2 L3 L4 ⊢
  rw [hd] at h3 L4 ⊢
  simp only [Int.toNat_natCast]
  clear ha hb' hc hd hb hn'
  split
  · left
    rename_i k
    have e : sz (a : Int) = 1 := by
      rcases sz_ways (a : Int) with s | s | s | s | s <;> omega
    refine ⟨e, by show 1 ≠ 0; decide, ?_⟩
    show l = put (a : Int) ++ l.drop 1
    unfold put
    rw [e]
    exact L1
  · split
    · split
      · left
        rename_i k1 k2 k
        generalize hm : a % 32 * 64 + b % 64 = m at *
        have e : sz (m : Int) = 2 := by
          rcases sz_ways (m : Int) with s | s | s | s | s <;> omega
        refine ⟨e, by show 2 ≠ 0; decide, ?_⟩
        show l = put (m : Int) ++ l.drop 2
        unfold put
        rw [e]
        have := L2 (by omega)
        rw [show (192 : Int) + (m : Int) / 64 = a by omega, show (128 : Int) + (m : Int) % 64 = b by omega]
        exact this
      · right; rfl
    · split
      · split
        · left
          rename_i k0 k1 k2 k
          generalize hm : a % 16 * 4096 + b % 64 * 64 + c % 64 = m at *
          have e : sz (m : Int) = 3 := by
            rcases sz_ways (m : Int) with s | s | s | s | s <;> omega
          refine ⟨e, by show 3 ≠ 0; decide, ?_⟩
          show l = put (m : Int) ++ l.drop 3
          unfold put
          rw [e]
          have := L3 (by omega)
          rw [show (224 : Int) + (m : Int) / 4096 = a by omega, show (128 : Int) + (m : Int) / 64 % 64 = b by omega, show (128 : Int) + (m : Int) % 64 = c by omega]
          exact this
        · right; rfl
      · split
        · split
          · left
            rename_i k0 k1 k2 k3 k
            generalize hm : a % 8 * 262144 + b % 64 * 4096 + c % 64 * 64 + d % 64 = m at *
            have e : sz (m : Int) = 4 := by
              rcases sz_ways (m : Int) with s | s | s | s | s <;> omega
            refine ⟨e, by show 4 ≠ 0; decide, ?_⟩
            show l = put (m : Int) ++ l.drop 4
            unfold put
            rw [e]
            have := L4 (by omega)
            rw [show (240 : Int) + (m : Int) / 262144 = a by omega, show (128 : Int) + (m : Int) / 4096 % 64 = b by omega, show (128 : Int) + (m : Int) / 64 % 64 = c by omega, show (128 : Int) + (m : Int) % 64 = d by omega]
            exact this
          · right; rfl
        · right; rfl
end Go.Proofs.Ytphgljhlamjmgaa
