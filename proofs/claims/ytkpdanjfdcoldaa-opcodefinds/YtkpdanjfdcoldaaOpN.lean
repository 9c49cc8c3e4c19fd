/- Names are unlike; what both By's answer. -/
import Derived.Test.YtkpdanjfdcoldaaRdD
namespace Go.Proofs.Ytkpdanjfdcoldaa
open Go.RowKit

/-- All numbers that can be an opcode. -/
def cand : List Int := (List.range 192).map (fun i : Nat => (i : Int)) ++ (List.range 8).map (fun i : Nat => ((64512 + i : Nat) : Int))
theorem cand_ok : cand.all (fun i => (nm i).isEmpty || byN (nm i) == some i) = true := by kernel_rfl
theorem tab_ok : tab.all (fun p => nm p.1 == p.2 && !p.2.isEmpty) = true := by kernel_rfl
theorem mem_cand {op : Int} (h : nm op ≠ []) : op ∈ cand := by
  have h2 : ¬ (op < 0 ∨ (192 ≤ op ∧ op < 64512) ∨ 64520 ≤ op) := fun k => h (nm_out op k)
  refine List.mem_append.2 ?_
  by_cases hc : op < 192
  · exact .inl (List.mem_map.2 ⟨op.toNat, List.mem_range.2 (by omega), by omega⟩)
  · exact .inr (List.mem_map.2 ⟨op.toNat - 64512, List.mem_range.2 (by omega), by omega⟩)
theorem by_nm {op : Int} (h : nm op ≠ []) : byN (nm op) = some op := by
  have h1 := List.all_eq_true.1 cand_ok op (mem_cand h)
  simp only [Bool.or_eq_true, List.isEmpty_iff, h, false_or] at h1
  exact eq_of_beq h1
theorem nm_by {s : List UInt8} {r : Int} (h : byN s = some r) : nm r = s ∧ s ≠ [] := by
  unfold byN at h
  obtain ⟨p, hp, rfl⟩ := Option.map_eq_some_iff.1 h
  have h1 := List.all_eq_true.1 tab_ok p (List.mem_of_find?_eq_some hp)
  have h2 : p.2 = s := by simpa using List.find?_some hp
  simp only [Bool.and_eq_true, Bool.not_eq_true', List.isEmpty_eq_false_iff] at h1
  exact ⟨(eq_of_beq h1.1).trans h2, h2 ▸ h1.2⟩
theorem nm_pos {s : List UInt8} {r : Int} (h : nm r = s ∧ s ≠ []) : 0 ≤ r := Decidable.byContradiction fun hn => h.2 (h.1 ▸ nm_out r (.inl (by omega)))
theorem RbR.byN {s : List UInt8} {r : Int} (h : RbR s r) : (0 ≤ r ∧ byN s = some r) ∨ (r = -1 ∧ byN s = none) := by
  rcases h with ⟨rfl, rfl⟩ | ⟨hs, h⟩
  · refine .inr ⟨rfl, Option.eq_none_iff_forall_ne_some.2 fun q hq => (nm_by hq).2 rfl⟩
  rcases h with ⟨i, hi, rfl, h1, -⟩ | ⟨h0, ⟨i, hi, rfl, h1, -⟩ | ⟨rfl, h1⟩⟩
  · exact .inl ⟨by omega, by have := by_nm (op := (i : Int)) (by rw [h1]; exact hs); rwa [h1] at this⟩
  · exact .inl ⟨by omega, by have := by_nm (op := ((64512 + i : Nat) : Int)) (by rw [h1]; exact hs); rwa [h1] at this⟩
  · refine .inr ⟨rfl, Option.eq_none_iff_forall_ne_some.2 fun q hq => ?_⟩
    obtain ⟨h2, h3⟩ := nm_by hq
    have h4 := mem_cand (op := q) (by rw [h2]; exact h3)
    rcases List.mem_append.1 h4 with h5 | h5
    · obtain ⟨j, hj, rfl⟩ := List.mem_map.1 h5
      exact h0 j (List.mem_range.1 hj) h2
    · obtain ⟨j, hj, rfl⟩ := List.mem_map.1 h5
      exact h1 j (List.mem_range.1 hj) h2

end Go.Proofs.Ytkpdanjfdcoldaa
