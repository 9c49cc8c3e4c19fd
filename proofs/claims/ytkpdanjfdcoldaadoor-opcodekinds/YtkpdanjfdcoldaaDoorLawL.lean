/- OpcodeKinds of anything. -/
import Derived.Test.YtkpdanjfdcoldaaDoorLawK
import Derived.Test.YtkpdanjfdcoldaaDoorImD
namespace Go.Proofs.YtkpdanjfdcoldaaDoor
open Go.RowKit

theorem bs_take (l : List UInt8) (n : Nat) : (bs l).extract 0 n = bs (l.take n) := bs_ext (by simp [bs])
theorem ne_op {op c : Int} (h : op ≠ c) : (op == c) = false := by simp [h]
/-- Imm of an opcode that is neither listed nor a load or a store. -/
theorem imm_num (op : Int) (hm : op ≤ 9223372036854775807) (h : 68 < op) : Cm 6 #[.int .i64 op] (.tuple #[.int .i64 0, .bool (numB op)]) := by
  obtain ⟨c, HK⟩ := kind_any op hm
  exact imm_n op 0 _ (ne_op (by omega)) (ne_op (by omega)) (ne_op (by omega)) (ne_op (by omega)) (ne_op (by omega)) (ne_op (by omega)) (ne_op (by omega)) (ne_op (by omega)) (ne_op (by omega)) (ne_op (by omega)) (ne_op (by omega)) (ne_op (by omega)) (ne_op (by omega)) (ne_op (by omega)) (ne_op (by omega)) (ne_op (by omega)) (ne_op (by omega)) (ne_op (by omega)) (ne_op (by omega)) (ne_op (by omega)) (ne_op (by omega)) (ne_op (by omega)) (immv_n op _ _ _ _ (.inr h) HK)
attribute [local irreducible] nm kT
theorem kinds_any (W : World) (m : Mk W) (op : Int) (hm : op ≤ 9223372036854775807) : Calls Tryd.prog 4 #[.int .i64 op] W fun r W' => r = .returned (.bool true) ∧ Below W.heap.size W W' := by
  obtain ⟨c, HK⟩ := kind_any op hm
  cases h : numB op with
  | false => rw [h] at HK; exact kinds_no op _ _ _ HK W m
  | true =>
    rw [h] at HK
    have hn : 69 ≤ op := by unfold numB at h; simp at h; omega
    have HI := imm_num op hm (by omega)
    rw [h] at HI
    have k := okK_at h
    unfold okK at k
    simp only [Bool.and_eq_true, decide_eq_true_eq] at k
    obtain ⟨⟨⟨k1, k2⟩, k3⟩, k4⟩ := k
    have k4 := eq_of_beq k4
    refine kinds_s op (if op ≤ 102 then (kT op).1 else (kT op).2) _ _ _ (bs (nm op)) hn (by omega) ?_ (by rw [bs_size]; exact k3) (by rw [bs_take, k4]) HK (name_any op) HI W m
    by_cases h2 : op ≤ 102
    · exact .inl ⟨h2, by rw [if_pos h2]⟩
    · exact .inr ⟨h2, by rw [if_neg h2]⟩

end Go.Proofs.YtkpdanjfdcoldaaDoor
