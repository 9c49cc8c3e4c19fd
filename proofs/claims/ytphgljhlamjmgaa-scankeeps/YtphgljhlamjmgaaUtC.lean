/- Names: how many characters bytes are; names one behind the other; names that are cut. -/
import Derived.Test.YtphgljhlamjmgaaUtM
namespace Go.Proofs.Ytphgljhlamjmgaa

theorem dc_pos (l : List Int) : 1 ≤ (dc l).2 := by
  unfold dc Lib.decodeN
  repeat' split
  all_goals simp only
  all_goals omega
theorem getD_left (xs ys : List Int) (i : Nat) (h : i < xs.length) : (xs ++ ys).getD i 0 = xs.getD i 0 := by
  rw [List.getD_eq_getElem?_getD, List.getD_eq_getElem?_getD, List.getElem?_append_left h]
theorem getD_right (xs ys : List Int) (i : Nat) (h : xs.length ≤ i) : (xs ++ ys).getD i 0 = ys.getD (i - xs.length) 0 := by
  rw [List.getD_eq_getElem?_getD, List.getD_eq_getElem?_getD, List.getElem?_append_right h]
/-- Whether bytes begin with a character. -/
def isC (l : List Int) : Bool := decide ((dc l).2 = sz ((dc l).1 : Int))
theorem isC_put {c : Int} (h : sz c ≠ 0) (r : List Int) : isC (put c ++ r) = true := by
  unfold isC
  rw [dc_put h]
  have : 0 ≤ c := by rcases sz_ways c with k | k | k | k | k <;> omega
  exact decide_eq_true (by show sz c = sz ((c.toNat : Nat) : Int); rw [Int.toNat_of_nonneg this])
theorem isC_no {l : List Int} (h : dc l = (65533, 1)) : isC l = false := by
  unfold isC
  rw [h]
  exact decide_eq_false (by show ¬ 1 = sz 65533; rw [bad_sz]; decide)
theorem isC_ways {l : List Int} (hb : Byt l) (hn : 1 ≤ l.length) : (isC l = true ∧ sz ((dc l).1 : Int) = (dc l).2 ∧ (dc l).2 ≠ 0 ∧ l = put ((dc l).1 : Int) ++ l.drop (dc l).2) ∨ (isC l = false ∧ dc l = (65533, 1)) := by
  rcases dc_ways hb hn with h | h
  · exact Or.inl ⟨decide_eq_true h.1.symm, h⟩
  · exact Or.inr ⟨isC_no h, h⟩
/-- How many characters bytes are; none: they are no name. -/
def cnt (l : List Int) : Option Nat := if _h : l = [] then some 0 else if isC l = true then (cnt (l.drop (dc l).2)).map (· + 1) else none
  termination_by l.length
  decreasing_by
    have h1 := dc_pos l
    have h2 := List.length_pos_iff.2 _h
    rw [List.length_drop]
    omega
theorem cnt_nil : cnt [] = some 0 := by rw [cnt]; rfl
theorem cnt_bad {l : List Int} (h : l ≠ []) (k : isC l = false) : cnt l = none := by rw [cnt, dif_neg h, if_neg (by rw [k]; decide)]
theorem cnt_ok {l : List Int} (h : l ≠ []) (k : isC l = true) : cnt l = (cnt (l.drop (dc l).2)).map (· + 1) := by rw [cnt, dif_neg h, if_pos k]
theorem put_ne {c : Int} (h : sz c ≠ 0) : put c ≠ [] := fun e => h (by rw [← put_len, e]; rfl)
theorem cnt_put {c : Int} (h : sz c ≠ 0) (r : List Int) : cnt (put c ++ r) = (cnt r).map (· + 1) := by
  rw [cnt_ok (by simp [put_ne h]) (isC_put h r), dc_put h]
  show (cnt ((put c ++ r).drop (sz c))).map _ = _
  rw [List.drop_left' (put_len c)]
/-- Characters' bytes, one behind the other. -/
def flat (cs : List Int) : List Int := cs.flatMap put
theorem flat_cons (c : Int) (cs : List Int) : flat (c :: cs) = put c ++ flat cs := rfl
theorem flat_snoc (cs : List Int) (c : Int) : flat (cs ++ [c]) = flat cs ++ put c := by simp [flat]
theorem cnt_flat (cs : List Int) (h : ∀ c ∈ cs, sz c ≠ 0) (r : List Int) : cnt (flat cs ++ r) = (cnt r).map (· + cs.length) := by
  induction cs with
  | nil => show cnt r = _; cases cnt r <;> rfl
  | cons c cs ih =>
    rw [flat_cons, List.append_assoc, cnt_put (h c (by simp)), ih (fun x hx => h x (by simp [hx])), Option.map_map]
    congr 1
theorem cnt_flat_nil (cs : List Int) (h : ∀ c ∈ cs, sz c ≠ 0) : cnt (flat cs) = some cs.length := by
  have := cnt_flat cs h []
  rw [List.append_nil, cnt_nil] at this
  rw [this]
  show some (0 + cs.length) = _
  rw [Nat.zero_add]
/-- What has a count is characters' bytes. -/
theorem cnt_some : ∀ (k : Nat) (l : List Int) (n : Nat), l.length ≤ k → Byt l → cnt l = some n → ∃ cs : List Int, (∀ c ∈ cs, sz c ≠ 0) ∧ l = flat cs ∧ cs.length = n
  | 0, l, n, hk, _, h => by
    have e : l = [] := List.eq_nil_of_length_eq_zero (by omega)
    subst e
    rw [cnt_nil] at h
    injection h with h
    exact ⟨[], fun c hc => by simp at hc, rfl, h⟩
  | k + 1, l, n, hk, hb, h => by
    by_cases hl : l = []
    · subst hl
      rw [cnt_nil] at h
      injection h with h
      exact ⟨[], fun c hc => by simp at hc, rfl, h⟩
    · have h1 := List.length_pos_iff.2 hl
      rcases isC_ways hb h1 with ⟨a, b, c, d⟩ | ⟨a, _⟩
      · rw [cnt_ok hl a] at h
        cases hm : cnt (l.drop (dc l).2) with
        | none => rw [hm] at h; cases h
        | some m =>
          rw [hm] at h
          injection h with h
          obtain ⟨cs, e1, e2, e3⟩ := cnt_some k (l.drop (dc l).2) m (by rw [List.length_drop]; have := dc_pos l; omega) (byt_drop hb _) hm
          refine ⟨((dc l).1 : Int) :: cs, fun x hx => ?_, ?_, ?_⟩
          · rcases List.mem_cons.1 hx with rfl | hx
            · rw [b]; exact c
            · exact e1 x hx
          · rw [flat_cons, ← e2]; exact d
          · rw [List.length_cons, e3, ← h]
      · rw [cnt_bad hl a] at h
        cases h
theorem cnt_le (cs : List Int) (h : ∀ c ∈ cs, sz c ≠ 0) : cs.length ≤ (flat cs).length := by
  induction cs with
  | nil => simp
  | cons c cs ih =>
    have := ih (fun x hx => h x (by simp [hx]))
    have h2 := h c (by simp)
    rw [flat_cons, List.length_append, List.length_cons, put_len]
    omega
theorem cnt_bound {l : List Int} {n : Nat} (hb : Byt l) (h : cnt l = some n) : n ≤ l.length := by
  obtain ⟨cs, h1, h2, h3⟩ := cnt_some l.length l n (Nat.le_refl _) hb h
  rw [h2, ← h3]
  exact cnt_le cs h1
/-- A character's first byte is none of those in the midst; its others are. -/
theorem put_at {c : Int} (h : sz c ≠ 0) : ¬ (128 ≤ (put c).getD 0 0 ∧ (put c).getD 0 0 < 192) ∧ ∀ i, 0 < i → i < sz c → 128 ≤ (put c).getD i 0 ∧ (put c).getD i 0 < 192 := by
  unfold put
  rcases sz_ways c with k | k | k | k | k
  · exact absurd k.1 h
  · rw [k.1]
    exact ⟨by show ¬ (128 ≤ c ∧ c < 192); omega, fun i h1 h2 => by omega⟩
  · rw [k.1]
    refine ⟨by show ¬ (128 ≤ 192 + c / 64 ∧ 192 + c / 64 < 192); omega, fun i h1 h2 => ?_⟩
    have : i = 1 := by omega
    subst this
    show 128 ≤ 128 + c % 64 ∧ 128 + c % 64 < 192
    omega
  · rw [k.1]
    refine ⟨by show ¬ (128 ≤ 224 + c / 4096 ∧ 224 + c / 4096 < 192); omega, fun i h1 h2 => ?_⟩
    have : i = 1 ∨ i = 2 := by omega
    rcases this with rfl | rfl
    · show 128 ≤ 128 + c / 64 % 64 ∧ 128 + c / 64 % 64 < 192
      omega
    · show 128 ≤ 128 + c % 64 ∧ 128 + c % 64 < 192
      omega
  · rw [k.1]
    refine ⟨by show ¬ (128 ≤ 240 + c / 262144 ∧ 240 + c / 262144 < 192); omega, fun i h1 h2 => ?_⟩
    have : i = 1 ∨ i = 2 ∨ i = 3 := by omega
    rcases this with rfl | rfl | rfl
    · show 128 ≤ 128 + c / 4096 % 64 ∧ 128 + c / 4096 % 64 < 192
      omega
    · show 128 ≤ 128 + c / 64 % 64 ∧ 128 + c / 64 % 64 < 192
      omega
    · show 128 ≤ 128 + c % 64 ∧ 128 + c % 64 < 192
      omega
/-- What begins in the midst of a character is no name. -/
theorem cnt_mid {l : List Int} (hb : Byt l) (hl : l ≠ []) (h : 128 ≤ l.getD 0 0 ∧ l.getD 0 0 < 192) : cnt l = none := by
  refine cnt_bad hl ?_
  have h1 := List.length_pos_iff.2 hl
  rcases isC_ways hb h1 with ⟨a, b, c, d⟩ | ⟨a, _⟩
  · exfalso
    have hz : sz ((dc l).1 : Int) ≠ 0 := by rw [b]; exact c
    have := (put_at hz).1
    rw [d, getD_left _ _ _ (by rw [put_len]; omega)] at h
    exact this h
  · exact a
/-- A character that is cut is none. -/
theorem cnt_cut {c : Int} {i : Nat} (hz : sz c ≠ 0) (h0 : 0 < i) (h1 : i < sz c) : cnt ((put c).take i) = none := by
  have hl : (put c).take i ≠ [] := by
    intro e
    have := congrArg List.length e
    rw [List.length_take, put_len] at this
    simp at this
    omega
  refine cnt_bad hl ?_
  rcases isC_ways (byt_take (put_byt c) i) (List.length_pos_iff.2 hl) with ⟨a, b, d, e⟩ | ⟨a, _⟩
  · exfalso
    generalize (dc ((put c).take i)).1 = x at *
    generalize (dc ((put c).take i)).2 = w at *
    have hx : sz (x : Int) ≠ 0 := by rw [b]; exact d
    have h2 : put c = put (x : Int) ++ (((put c).take i).drop w ++ (put c).drop i) := by rw [← List.append_assoc, ← e, List.take_append_drop]
    have h3 := dc_put hz []
    rw [List.append_nil, h2, dc_put hx] at h3
    injection h3 with h3 h4
    have h5 := congrArg List.length e
    rw [List.length_take, put_len, List.length_append, put_len] at h5
    omega
  · exact a
/-- A name that is cut: on a border both are names, in the midst of a character neither is. -/
theorem cut_any (cs : List Int) : ∀ (i : Nat), (∀ c ∈ cs, sz c ≠ 0) → i < (flat cs).length →
    (((128 ≤ (flat cs).getD i 0 ∧ (flat cs).getD i 0 < 192) ∧ cnt ((flat cs).take i) = none ∧ cnt ((flat cs).drop i) = none) ∨ (¬ (128 ≤ (flat cs).getD i 0 ∧ (flat cs).getD i 0 < 192) ∧ (cnt ((flat cs).take i)).isSome = true ∧ (cnt ((flat cs).drop i)).isSome = true)) := by
  induction cs with
  | nil => intro i _ h; simp [flat] at h
  | cons c cs ih =>
    intro i hv hi
    have hz := hv c (by simp)
    have hv' : ∀ c ∈ cs, sz c ≠ 0 := fun x hx => hv x (by simp [hx])
    have hbf : Byt (flat cs) := by
      intro x hx
      obtain ⟨y, _, hy⟩ := List.mem_flatMap.1 hx
      exact put_byt y x hy
    rw [flat_cons] at hi ⊢
    rw [List.length_append, put_len] at hi
    by_cases h0 : i = 0
    · subst h0
      right
      refine ⟨?_, by rw [List.take_zero, cnt_nil]; rfl, ?_⟩
      · rw [getD_left _ _ _ (by rw [put_len]; omega)]
        exact (put_at hz).1
      · rw [List.drop_zero, cnt_put hz, cnt_flat_nil cs hv']; rfl
    · by_cases h1 : i < sz c
      · left
        have hm := (put_at hz).2 i (by omega) h1
        have e : (put c ++ flat cs).getD i 0 = (put c).getD i 0 := getD_left _ _ _ (by rw [put_len]; omega)
        refine ⟨by rw [e]; exact hm, ?_, ?_⟩
        · rw [List.take_append_of_le_length (by rw [put_len]; omega)]
          exact cnt_cut hz (by omega) h1
        · refine cnt_mid (byt_drop (byt_app (put_byt c) hbf) i) ?_ ?_
          · intro he
            have := congrArg List.length he
            rw [List.length_drop, List.length_append, put_len] at this
            simp at this
            omega
          · have e2 : ((put c ++ flat cs).drop i).getD 0 0 = (put c ++ flat cs).getD i 0 := by
              rw [List.getD_eq_getElem?_getD, List.getD_eq_getElem?_getD, List.getElem?_drop, Nat.add_zero]
            rw [e2, e]
            exact hm
      · have hj : i - sz c < (flat cs).length := by omega
        have e : (put c ++ flat cs).getD i 0 = (flat cs).getD (i - sz c) 0 := by
          rw [getD_right _ _ _ (by rw [put_len]; omega), put_len]
        have e1 : (put c ++ flat cs).take i = put c ++ (flat cs).take (i - sz c) := by
          rw [List.take_append, put_len, List.take_of_length_le (by rw [put_len]; omega)]
        have e2 : (put c ++ flat cs).drop i = (flat cs).drop (i - sz c) := by
          rw [List.drop_append, put_len, List.drop_of_length_le (by rw [put_len]; omega), List.nil_append]
        rw [e, e1, e2, cnt_put hz]
        rcases ih (i - sz c) hv' hj with ⟨a, b, d⟩ | ⟨a, b, d⟩
        · exact Or.inl ⟨a, by rw [b]; rfl, d⟩
        · exact Or.inr ⟨a, by rw [Option.isSome_map]; exact b, d⟩
/-- Bytes below 128 are a name of as many characters. -/
theorem cnt_low : ∀ (l : List Int), (∀ x ∈ l, 0 ≤ x ∧ x < 128) → cnt l = some l.length
  | [], _ => cnt_nil
  | x :: l, h => by
    have hx := h x (by simp)
    have e : sz x = 1 := by rcases sz_ways x with k | k | k | k | k <;> omega
    have e2 : put x = [x] := by unfold put; rw [e]; rfl
    have := cnt_put (c := x) (by omega) l
    rw [e2] at this
    rw [List.singleton_append] at this
    rw [this, cnt_low l (fun y hy => h y (by simp [hy]))]
    rfl
theorem cnt_255 : cnt [255] = none := cnt_bad (by simp) (isC_no (by rfl))
theorem cnt_128 (l : List Int) (h : Byt l) : cnt (128 :: l) = none :=
  cnt_mid (fun x hx => (List.mem_cons.1 hx).elim (fun e => by subst e; decide) (h x)) (by simp) (show (128 : Int) ≤ 128 ∧ (128 : Int) < 192 by decide)
/-- What a text begins with at a place. -/
theorem str_at (xs : List Int) (h : Byt xs) (i : Nat) : ((strOfNums xs).get! i).toNat = (xs.getD i 0).toNat := by
  have hb := h.at0 i
  by_cases hi : i < xs.length
  · have hs : i < (strOfNums xs).size := by rw [strOfNums_size]; exact hi
    have e : (strOfNums xs).get! i = UInt8.ofNat (xs.getD i 0).toNat := by
      show (strOfNums xs).data[i]! = _
      rw [getElem!_pos (strOfNums xs).data i hs]
      simp [strOfNums, List.getD, List.getElem?_eq_getElem hi]
    rw [e, UInt8.toNat_ofNat', Nat.mod_eq_of_lt (by omega)]
  · have e : (strOfNums xs).get! i = 0 := by
      show (strOfNums xs).data[i]! = _
      rw [getElem!_neg (strOfNums xs).data i (by show ¬ i < (strOfNums xs).size; rw [strOfNums_size]; exact hi)]
      rfl
    rw [e, List.getD_eq_getElem?_getD, List.getElem?_eq_none (by omega)]
    rfl
theorem getD_drop (xs : List Int) (k i : Nat) : (xs.drop k).getD i 0 = xs.getD (k + i) 0 := by
  rw [List.getD_eq_getElem?_getD, List.getD_eq_getElem?_getD, List.getElem?_drop]
theorem decode_str (xs : List Int) (h : Byt xs) (k : Nat) : Utf8.decode (strOfNums xs) k = dc (xs.drop k) := by
  rw [Lib.decode_at, str_at xs h, str_at xs h, str_at xs h, str_at xs h, strOfNums_size]
  unfold dc
  rw [getD_drop, getD_drop, getD_drop, getD_drop, List.length_drop]
  rfl
/-- Only the first four bytes count. -/
theorem dc_take (l : List Int) : dc (l.take 4) = dc l := by
  unfold dc
  match l with
  | [] => rfl
  | [_] => rfl
  | [_, _] => rfl
  | [_, _, _] => rfl
  | a :: b :: c :: d :: l =>
    show Lib.decodeN 4 a.toNat b.toNat c.toNat d.toNat = Lib.decodeN (l.length + 1 + 1 + 1 + 1) a.toNat b.toNat c.toNat d.toNat
    unfold Lib.decodeN
    simp only [show 1 < 4 by omega, show 2 < 4 by omega, show 3 < 4 by omega, show 1 < l.length + 1 + 1 + 1 + 1 by omega, show 2 < l.length + 1 + 1 + 1 + 1 by omega, show 3 < l.length + 1 + 1 + 1 + 1 by omega]
theorem dc_le {l : List Int} (hb : Byt l) (hn : 1 ≤ l.length) : (dc l).2 ≤ l.length := by
  rcases dc_ways hb hn with ⟨a, b, c⟩ | h
  · have h := congrArg List.length c
    rw [List.length_append, put_len, a] at h
    omega
  · rw [h]; exact hn
theorem dc_lt {l : List Int} (hb : Byt l) (hn : 1 ≤ l.length) : (dc l).1 ≤ 1114111 := by
  rcases dc_ways hb hn with ⟨a, b, c⟩ | h
  · rcases sz_ways ((dc l).1 : Int) with k | k | k | k | k <;> omega
  · rw [h]; decide
end Go.Proofs.Ytphgljhlamjmgaa
