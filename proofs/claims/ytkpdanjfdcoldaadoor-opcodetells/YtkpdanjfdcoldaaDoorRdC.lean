/- The reference's Name of anything. -/
import Derived.Test.YtkpdanjfdcoldaaDoorOpI
import Derived.Test.YtkpdanjfdcoldaaDoorRnC
import Derived.Test.YtkpdanjfdcoldaaDoorRdB
namespace Go.Proofs.YtkpdanjfdcoldaaDoor
open Go.RowKit

theorem app_bs (p : List UInt8) (x : ByteArray) : (⟨p.toArray⟩ : ByteArray) ++ x = bs (p ++ x.data.toList) := bs_ext (by simp [bs])
theorem get_at {α : Type} (L : List α) (d : α) (i : Nat) (h : i < L.length) : L[i]? = some (L.getD i d) := by
  rw [List.getD_eq_getElem?_getD, List.getElem?_eq_getElem h]; rfl
def okN (p : List UInt8) (L : List ByteArray) (f : Int) (n : Nat) : Bool := (List.range n).all fun i => (p ++ (L.getD i ByteArray.empty).data.toList) == nm (f + (i : Int)) && decide ((L.getD i ByteArray.empty).size ≤ 100)
theorem okN_at {p : List UInt8} {L : List ByteArray} {f : Int} {n : Nat} (h : okN p L f n = true) (i : Nat) (hi : i < n) : p ++ (L.getD i ByteArray.empty).data.toList = nm (f + (i : Int)) ∧ (L.getD i ByteArray.empty).size ≤ 100 := by
  have := List.all_eq_true.1 h i (List.mem_range.2 hi)
  simp only [Bool.and_eq_true, beq_iff_eq, decide_eq_true_eq] at this
  exact this
theorem ck_0 : okN [105, 51, 50, 46] relL 69 11 = true := by kernel_rfl
theorem r14_0 (i : Nat) (h : i < 11) : Ct 16 #[.int .i64 (69 + (i : Int))] (.string (bs (nm (69 + (i : Int))))) := by
  have c := okN_at ck_0 i h
  have r := rnm_0 (op := 69 + (i : Int))  (i := i) (by omega) (by omega) (by omega) (by rw [i64_id (by omega) (by omega)]; omega) h (get_at relL ByteArray.empty i h) c.2
  rw [← c.1, ← app_bs]
  exact r
theorem ck_1 : okN [105, 54, 52, 46] relL 80 11 = true := by kernel_rfl
theorem r14_1 (i : Nat) (h : i < 11) : Ct 16 #[.int .i64 (80 + (i : Int))] (.string (bs (nm (80 + (i : Int))))) := by
  have c := okN_at ck_1 i h
  have r := rnm_1 (op := 80 + (i : Int)) (z0 := 11 + (i : Int)) (i := i) (by omega) (by omega) (by omega) (by rw [i64_id (by omega) (by omega)]; omega) (by omega) (by rw [i64_id (by omega) (by omega)]; omega) h (get_at relL ByteArray.empty i h) c.2
  rw [← c.1, ← app_bs]
  exact r
theorem ck_2 : okN [102, 51, 50, 46] floL 91 6 = true := by kernel_rfl
theorem r14_2 (i : Nat) (h : i < 6) : Ct 16 #[.int .i64 (91 + (i : Int))] (.string (bs (nm (91 + (i : Int))))) := by
  have c := okN_at ck_2 i h
  have r := rnm_2 (op := 91 + (i : Int)) (z0 := 22 + (i : Int)) (z1 := 11 + (i : Int)) (i := i) (by omega) (by omega) (by omega) (by rw [i64_id (by omega) (by omega)]; omega) (by omega) (by rw [i64_id (by omega) (by omega)]; omega) (by omega) (by rw [i64_id (by omega) (by omega)]; omega) h (get_at floL ByteArray.empty i h) c.2
  rw [← c.1, ← app_bs]
  exact r
theorem ck_3 : okN [102, 54, 52, 46] floL 97 6 = true := by kernel_rfl
theorem r14_3 (i : Nat) (h : i < 6) : Ct 16 #[.int .i64 (97 + (i : Int))] (.string (bs (nm (97 + (i : Int))))) := by
  have c := okN_at ck_3 i h
  have r := rnm_3 (op := 97 + (i : Int)) (z0 := 28 + (i : Int)) (z1 := 17 + (i : Int)) (z2 := 6 + (i : Int)) (i := i) (by omega) (by omega) (by omega) (by rw [i64_id (by omega) (by omega)]; omega) (by omega) (by rw [i64_id (by omega) (by omega)]; omega) (by omega) (by rw [i64_id (by omega) (by omega)]; omega) (by omega) (by rw [i64_id (by omega) (by omega)]; omega) h (get_at floL ByteArray.empty i h) c.2
  rw [← c.1, ← app_bs]
  exact r
theorem ck_4 : okN [105, 51, 50, 46] whoL 103 18 = true := by kernel_rfl
theorem r14_4 (i : Nat) (h : i < 18) : Ct 16 #[.int .i64 (103 + (i : Int))] (.string (bs (nm (103 + (i : Int))))) := by
  have c := okN_at ck_4 i h
  have r := rnm_4 (op := 103 + (i : Int)) (z0 := 34 + (i : Int)) (z1 := 23 + (i : Int)) (z2 := 12 + (i : Int)) (z3 := 6 + (i : Int)) (i := i) (by omega) (by omega) (by omega) (by rw [i64_id (by omega) (by omega)]; omega) (by omega) (by rw [i64_id (by omega) (by omega)]; omega) (by omega) (by rw [i64_id (by omega) (by omega)]; omega) (by omega) (by rw [i64_id (by omega) (by omega)]; omega) (by omega) (by rw [i64_id (by omega) (by omega)]; omega) h (get_at whoL ByteArray.empty i h) c.2
  rw [← c.1, ← app_bs]
  exact r
theorem ck_5 : okN [105, 54, 52, 46] whoL 121 18 = true := by kernel_rfl
theorem r14_5 (i : Nat) (h : i < 18) : Ct 16 #[.int .i64 (121 + (i : Int))] (.string (bs (nm (121 + (i : Int))))) := by
  have c := okN_at ck_5 i h
  have r := rnm_5 (op := 121 + (i : Int)) (z0 := 52 + (i : Int)) (z1 := 41 + (i : Int)) (z2 := 30 + (i : Int)) (z3 := 24 + (i : Int)) (z4 := 18 + (i : Int)) (i := i) (by omega) (by omega) (by omega) (by rw [i64_id (by omega) (by omega)]; omega) (by omega) (by rw [i64_id (by omega) (by omega)]; omega) (by omega) (by rw [i64_id (by omega) (by omega)]; omega) (by omega) (by rw [i64_id (by omega) (by omega)]; omega) (by omega) (by rw [i64_id (by omega) (by omega)]; omega) (by omega) (by rw [i64_id (by omega) (by omega)]; omega) h (get_at whoL ByteArray.empty i h) c.2
  rw [← c.1, ← app_bs]
  exact r
theorem ck_6 : okN [102, 51, 50, 46] douL 139 14 = true := by kernel_rfl
theorem r14_6 (i : Nat) (h : i < 14) : Ct 16 #[.int .i64 (139 + (i : Int))] (.string (bs (nm (139 + (i : Int))))) := by
  have c := okN_at ck_6 i h
  have r := rnm_6 (op := 139 + (i : Int)) (z0 := 70 + (i : Int)) (z1 := 59 + (i : Int)) (z2 := 48 + (i : Int)) (z3 := 42 + (i : Int)) (z4 := 36 + (i : Int)) (z5 := 18 + (i : Int)) (i := i) (by omega) (by omega) (by omega) (by rw [i64_id (by omega) (by omega)]; omega) (by omega) (by rw [i64_id (by omega) (by omega)]; omega) (by omega) (by rw [i64_id (by omega) (by omega)]; omega) (by omega) (by rw [i64_id (by omega) (by omega)]; omega) (by omega) (by rw [i64_id (by omega) (by omega)]; omega) (by omega) (by rw [i64_id (by omega) (by omega)]; omega) (by omega) (by rw [i64_id (by omega) (by omega)]; omega) h (get_at douL ByteArray.empty i h) c.2
  rw [← c.1, ← app_bs]
  exact r
theorem ck_7 : okN [102, 54, 52, 46] douL 153 14 = true := by kernel_rfl
theorem r14_7 (i : Nat) (h : i < 14) : Ct 16 #[.int .i64 (153 + (i : Int))] (.string (bs (nm (153 + (i : Int))))) := by
  have c := okN_at ck_7 i h
  have r := rnm_7 (op := 153 + (i : Int)) (z0 := 84 + (i : Int)) (z1 := 73 + (i : Int)) (z2 := 62 + (i : Int)) (z3 := 56 + (i : Int)) (z4 := 50 + (i : Int)) (z5 := 32 + (i : Int)) (z6 := 14 + (i : Int)) (i := i) (by omega) (by omega) (by omega) (by rw [i64_id (by omega) (by omega)]; omega) (by omega) (by rw [i64_id (by omega) (by omega)]; omega) (by omega) (by rw [i64_id (by omega) (by omega)]; omega) (by omega) (by rw [i64_id (by omega) (by omega)]; omega) (by omega) (by rw [i64_id (by omega) (by omega)]; omega) (by omega) (by rw [i64_id (by omega) (by omega)]; omega) (by omega) (by rw [i64_id (by omega) (by omega)]; omega) (by omega) (by rw [i64_id (by omega) (by omega)]; omega) h (get_at douL ByteArray.empty i h) c.2
  rw [← c.1, ← app_bs]
  exact r
theorem ck_8 : okN [] turL 167 25 = true := by kernel_rfl
theorem r14_8 (i : Nat) (h : i < 25) : Ct 16 #[.int .i64 (167 + (i : Int))] (.string (bs (nm (167 + (i : Int))))) := by
  have c := okN_at ck_8 i h
  have r := rnm_8 (op := 167 + (i : Int)) (z0 := 98 + (i : Int)) (z1 := 87 + (i : Int)) (z2 := 76 + (i : Int)) (z3 := 70 + (i : Int)) (z4 := 64 + (i : Int)) (z5 := 46 + (i : Int)) (z6 := 28 + (i : Int)) (z7 := 14 + (i : Int)) (i := i) (by omega) (by omega) (by omega) (by rw [i64_id (by omega) (by omega)]; omega) (by omega) (by rw [i64_id (by omega) (by omega)]; omega) (by omega) (by rw [i64_id (by omega) (by omega)]; omega) (by omega) (by rw [i64_id (by omega) (by omega)]; omega) (by omega) (by rw [i64_id (by omega) (by omega)]; omega) (by omega) (by rw [i64_id (by omega) (by omega)]; omega) (by omega) (by rw [i64_id (by omega) (by omega)]; omega) (by omega) (by rw [i64_id (by omega) (by omega)]; omega) (by omega) (by rw [i64_id (by omega) (by omega)]; omega) h (get_at turL ByteArray.empty i h) c.2
  rw [← c.1, ← app_bs]
  exact r
theorem ck_s : okN [] satL 64512 8 = true := by kernel_rfl
theorem r14_s (i : Nat) (h : i < 8) : Ct 16 #[.int .i64 (64512 + (i : Int))] (.string (bs (nm (64512 + (i : Int))))) := by
  have c := okN_at ck_s i h
  have r := rnm_s (op := 64512 + (i : Int)) (i := i) (by omega) (by omega) (by rw [i64_id (by omega) (by omega)]; omega) h (get_at satL ByteArray.empty i h)
  rw [← c.1]
  exact r
/-- The opcodes that are numeric. -/
theorem r14_any (op : Int) (h : 69 ≤ op ∧ op < 192 ∨ 64512 ≤ op ∧ op < 64520) : Ct 16 #[.int .i64 op] (.string (bs (nm op))) := by
  by_cases h0 : 69 ≤ op ∧ op < 80
  · have r := r14_0 (op - 69).toNat (by omega)
    rwa [show (69 : Int) + ((op - 69).toNat : Int) = op by omega] at r
  by_cases h1 : 80 ≤ op ∧ op < 91
  · have r := r14_1 (op - 80).toNat (by omega)
    rwa [show (80 : Int) + ((op - 80).toNat : Int) = op by omega] at r
  by_cases h2 : 91 ≤ op ∧ op < 97
  · have r := r14_2 (op - 91).toNat (by omega)
    rwa [show (91 : Int) + ((op - 91).toNat : Int) = op by omega] at r
  by_cases h3 : 97 ≤ op ∧ op < 103
  · have r := r14_3 (op - 97).toNat (by omega)
    rwa [show (97 : Int) + ((op - 97).toNat : Int) = op by omega] at r
  by_cases h4 : 103 ≤ op ∧ op < 121
  · have r := r14_4 (op - 103).toNat (by omega)
    rwa [show (103 : Int) + ((op - 103).toNat : Int) = op by omega] at r
  by_cases h5 : 121 ≤ op ∧ op < 139
  · have r := r14_5 (op - 121).toNat (by omega)
    rwa [show (121 : Int) + ((op - 121).toNat : Int) = op by omega] at r
  by_cases h6 : 139 ≤ op ∧ op < 153
  · have r := r14_6 (op - 139).toNat (by omega)
    rwa [show (139 : Int) + ((op - 139).toNat : Int) = op by omega] at r
  by_cases h7 : 153 ≤ op ∧ op < 167
  · have r := r14_7 (op - 153).toNat (by omega)
    rwa [show (153 : Int) + ((op - 153).toNat : Int) = op by omega] at r
  by_cases h8 : 167 ≤ op ∧ op < 192
  · have r := r14_8 (op - 167).toNat (by omega)
    rwa [show (167 : Int) + ((op - 167).toNat : Int) = op by omega] at r
  have r := r14_s (op - 64512).toNat (by omega)
  rwa [show (64512 : Int) + ((op - 64512).toNat : Int) = op by omega] at r
theorem codL_in : (List.range 26).all (fun k => (conL.getD k ByteArray.empty).data.toList == nm (codL.getD k 0)) = true := by kernel_rfl
theorem accL_ck : okN [] accL 40 23 = true := by kernel_rfl
theorem cod_out (op : Int) (h : 69 ≤ op ∨ op < 0 ∨ (40 ≤ op ∧ op ≤ 62)) : ∀ j, j < 26 → codL.getD j 0 ≠ op := by
  have key : ∀ j, j < 26 → 0 ≤ codL.getD j 0 ∧ codL.getD j 0 < 69 ∧ ¬ (40 ≤ codL.getD j 0 ∧ codL.getD j 0 ≤ 62) := by decide
  intro j hj e
  have := key j hj
  omega
theorem first_at (op : Int) : ∀ n, (∃ k, k < n ∧ codL.getD k 0 = op ∧ ∀ j, j < k → codL.getD j 0 ≠ op) ∨ ∀ j, j < n → codL.getD j 0 ≠ op
  | 0 => .inr (fun _ h => absurd h (by omega))
  | n + 1 => by
    rcases first_at op n with ⟨k, h1, h2, h3⟩ | h
    · exact .inl ⟨k, by omega, h2, h3⟩
    · by_cases e : codL.getD n 0 = op
      · exact .inl ⟨n, by omega, e, h⟩
      · refine .inr fun j hj => ?_
        by_cases hjn : j = n
        · subst hjn; exact e
        · exact h j (by omega)
theorem nm_low : ∀ i : Fin 69, (∀ j, j < 26 → codL.getD j 0 ≠ (i.val : Int)) → ¬ (40 ≤ (i.val : Int) ∧ (i.val : Int) ≤ 62) → nm (i.val : Int) = [] := by decide +kernel
/-- The reference's name of anything is the program's. -/
theorem rname_any (op : Int) : Ct 9 #[.int .i64 op] (.string (bs (nm op))) := by
  refine hide fun W => ?_
  rcases first_at op 26 with ⟨k, h1, h2, h3⟩ | h
  · have c := List.all_eq_true.1 codL_in k (List.mem_range.2 h1)
    simp only [beq_iff_eq, h2] at c
    exact rname_c op k _ h1 h2 h3 (by rw [get_at conL ByteArray.empty k h1, ← c]; rfl) W
  · by_cases g : 40 ≤ op ∧ op ≤ 62
    · have c := (okN_at accL_ck (op - 40).toNat (by omega)).1
      rw [show (40 : Int) + ((op - 40).toNat : Int) = op by omega] at c
      refine rname_a op _ h g.1 g.2 (op - 40).toNat (by omega) ?_ W
      rw [get_at accL ByteArray.empty _ (show (op - 40).toNat < 23 by omega), ← c]
      rfl
    · refine rname_n op _ h (by omega) ?_ W
      by_cases e : 69 ≤ op ∧ op < 192 ∨ 64512 ≤ op ∧ op < 64520
      · exact r14_any op e
      · have r := rnm_no (op := op) (by omega)
        have e0 : nm op = [] := by
          by_cases e1 : 0 ≤ op ∧ op < 69
          · have := nm_low ⟨op.toNat, by omega⟩
            simp only [show ((op.toNat : Nat) : Int) = op by omega] at this
            exact this h g
          · exact nm_out op (by omega)
        rw [e0]
        exact r

end Go.Proofs.YtkpdanjfdcoldaaDoor
