/- The number that bytes would make. -/
import Derived.Test.YtphgljhlamjmgaaUtC
namespace Go.Proofs.Ytphgljhlamjmgaa

def ofs (n : Nat) : Int := if n = 2 then 192 else if n = 3 then 224 else if n = 4 then 240 else 0
/-- The number that so many bytes make. -/
def gn (o : Int) (l : List Int) : Nat → Int
  | 0 => 0
  | 1 => l.getD 0 0 - o
  | i + 2 => 64 * gn o l (i + 1) + l.getD (i + 1) 0 - 128
theorem gn_one (o : Int) (l : List Int) : gn o l 1 = l.getD 0 0 - o := rfl
theorem gn_step (o : Int) (l : List Int) (i : Nat) (h : 1 ≤ i) : gn o l (i + 1) = 64 * gn o l i + l.getD i 0 - 128 := by
  obtain ⟨j, rfl⟩ : ∃ j, i = j + 1 := ⟨i - 1, by omega⟩
  rfl
theorem ofs_in (n : Nat) : 0 ≤ ofs n ∧ ofs n ≤ 240 := by
  unfold ofs
  repeat' split
  all_goals omega
theorem gn_in {l : List Int} (hb : Byt l) (n : Nat) (i : Nat) (h : i ≤ 4) : -100000000 ≤ gn (ofs n) l i ∧ gn (ofs n) l i ≤ 100000000 := by
  have o := ofs_in n
  have h0 := hb.at0 0
  have h1 := hb.at0 1
  have h2 := hb.at0 2
  have h3 := hb.at0 3
  have e1 := gn_one (ofs n) l
  have e2 : gn (ofs n) l 2 = _ := gn_step (ofs n) l 1 (by omega)
  have e3 : gn (ofs n) l 3 = _ := gn_step (ofs n) l 2 (by omega)
  have e4 : gn (ofs n) l 4 = _ := gn_step (ofs n) l 3 (by omega)
  have : i = 0 ∨ i = 1 ∨ i = 2 ∨ i = 3 ∨ i = 4 := by omega
  rcases this with rfl | rfl | rfl | rfl | rfl
  · exact ⟨by show (-100000000 : Int) ≤ 0; decide, by show (0 : Int) ≤ 100000000; decide⟩
  all_goals omega
/-- Bytes begin with a character of so many. -/
def Hit (n : Nat) (l : List Int) : Prop := isC l = true ∧ (dc l).2 = n
theorem hit_num {l : List Int} {n : Nat} (hb : Byt l) (hn : 1 ≤ l.length) (h : Hit n l) : gn (ofs n) l n = ((dc l).1 : Int) ∧ sz ((dc l).1 : Int) = n ∧ ∀ j, j < n → (put ((dc l).1 : Int)).getD j 0 = l.getD j 0 := by
  rcases isC_ways hb hn with ⟨q1, q2, q3, q4⟩ | ⟨q1, q2⟩
  · have hs : sz ((dc l).1 : Int) = n := by rw [q2]; exact h.2
    have hn0 : n ≠ 0 := by rw [← hs, q2]; exact q3
    have hg : ∀ j, j < n → l.getD j 0 = (put ((dc l).1 : Int)).getD j 0 := fun j hj => by
      have := getD_left (put ((dc l).1 : Int)) (l.drop (dc l).2) j (by rw [put_len]; omega)
      rw [← q4] at this
      exact this
    refine ⟨?_, hs, fun j hj => (hg j hj).symm⟩
    clear q1 q2 q3 q4 h
    generalize ((dc l).1 : Int) = d at *
    unfold put at hg
    rcases sz_ways d with k | k | k | k | k
    · omega
    · obtain rfl : n = 1 := by omega
      rw [hs] at hg
      rw [gn_one, hg 0 (by omega)]
      show d - 0 = d
      omega
    · obtain rfl : n = 2 := by omega
      rw [hs] at hg
      rw [gn_step _ _ 1 (by omega), gn_one, hg 0 (by omega), hg 1 (by omega)]
      show 64 * (192 + d / 64 - 192) + (128 + d % 64) - 128 = d
      omega
    · obtain rfl : n = 3 := by omega
      rw [hs] at hg
      rw [gn_step _ _ 2 (by omega), gn_step _ _ 1 (by omega), gn_one, hg 0 (by omega), hg 1 (by omega), hg 2 (by omega)]
      show 64 * (64 * (224 + d / 4096 - 224) + (128 + d / 64 % 64) - 128) + (128 + d % 64) - 128 = d
      omega
    · obtain rfl : n = 4 := by omega
      rw [hs] at hg
      rw [gn_step _ _ 3 (by omega), gn_step _ _ 2 (by omega), gn_step _ _ 1 (by omega), gn_one, hg 0 (by omega), hg 1 (by omega), hg 2 (by omega), hg 3 (by omega)]
      show 64 * (64 * (64 * (240 + d / 262144 - 240) + (128 + d / 4096 % 64) - 128) + (128 + d / 64 % 64) - 128) + (128 + d % 64) - 128 = d
      omega
  · rw [h.1] at q1
    cases q1
theorem eq_of_getD {xs ys : List Int} (h : xs.length = ys.length) (k : ∀ j, j < xs.length → xs.getD j 0 = ys.getD j 0) : xs = ys := by
  apply List.ext_getElem h
  intro i h1 h2
  have := k i h1
  rw [List.getD_eq_getElem?_getD, List.getD_eq_getElem?_getD, List.getElem?_eq_getElem h1, List.getElem?_eq_getElem h2] at this
  exact this
theorem num_hit {l : List Int} {n : Nat} {c : Int} (h0 : 1 ≤ n) (hn : n ≤ l.length) (hs : sz c = n) (h : ∀ j, j < n → (put c).getD j 0 = l.getD j 0) : Hit n l := by
  have e : put c = l.take n := eq_of_getD (by rw [put_len, List.length_take]; omega) (fun j hj => by
    rw [put_len, hs] at hj
    rw [h j hj]
    simp [List.getD, hj])
  have e2 : l = put c ++ l.drop n := by rw [e, List.take_append_drop]
  have hz : sz c ≠ 0 := by omega
  have q := dc_put hz (l.drop n)
  rw [← e2] at q
  refine ⟨?_, by rw [q]; exact hs⟩
  rw [e2]
  exact isC_put hz _
/-- Whether the first bytes are the same. -/
def sam (c : Int) (n : Nat) (l : List Int) : Nat → Bool
  | 0 => decide (sz c = n)
  | i + 1 => sam c n l i && decide ((put c).getD i 0 = l.getD i 0)
theorem sam_iff (c : Int) (n : Nat) (l : List Int) : ∀ i, sam c n l i = true ↔ (sz c = n ∧ ∀ j, j < i → (put c).getD j 0 = l.getD j 0)
  | 0 => by
    unfold sam
    rw [decide_eq_true_eq]
    exact ⟨fun h => ⟨h, fun j hj => by omega⟩, fun h => h.1⟩
  | i + 1 => by
    unfold sam
    rw [Bool.and_eq_true, decide_eq_true_eq, sam_iff c n l i]
    constructor
    · rintro ⟨⟨a, b⟩, d⟩
      refine ⟨a, fun j hj => ?_⟩
      by_cases hji : j = i
      · subst hji; exact d
      · exact b j (by omega)
    · rintro ⟨a, b⟩
      exact ⟨⟨a, fun j hj => b j (by omega)⟩, b i (by omega)⟩
theorem sam_hit {l : List Int} {n : Nat} (hb : Byt l) (h0 : 1 ≤ n) (hn : n ≤ l.length) : sam (gn (ofs n) l n) n l n = true ↔ Hit n l := by
  rw [sam_iff]
  constructor
  · rintro ⟨a, b⟩
    exact num_hit h0 hn a b
  · intro h
    obtain ⟨a, b, c⟩ := hit_num hb (by omega) h
    rw [a]
    exact ⟨b, c⟩
end Go.Proofs.Ytphgljhlamjmgaa
