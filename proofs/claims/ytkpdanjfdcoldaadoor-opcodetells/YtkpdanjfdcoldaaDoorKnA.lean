/- Kind of anything. -/
import Derived.Test.YtkpdanjfdcoldaaDoorNuL
import Derived.Test.YtkpdanjfdcoldaaDoorRdC
namespace Go.Proofs.YtkpdanjfdcoldaaDoor
open Go.RowKit

/-- The numeric opcodes. -/
def numB (op : Int) : Bool := decide (69 ≤ op ∧ op < 192 ∨ 64512 ≤ op ∧ op < 64520)
def cN : List Int := [126, 127, 125, 127, 125, 127, 124, 127, 124, 127, 127, 126, 127, 126, 125, 126, 125, 126, 124, 126, 124, 126, 127, 125, 127, 125, 126, 125, 126, 125, 124, 125, 127, 124, 127, 124, 126, 124, 126, 124, 125, 124, 125, 127, 124, 126, 127, 125, 126, 124]
def sN : List Int := [125, 127, 125, 127, 124, 127, 124, 127, 125, 126, 125, 126, 124, 126, 124, 126]
theorem cL_at (j : Nat) (h : j < 50) : cL[j]? = some (.int .u8 (cN.getD j 0)) := by
  rw [show cL = cN.map (fun n : Int => Value.int .u8 n) from rfl, List.getElem?_map, get_at cN 0 j h]
  rfl
theorem sL_at (j : Nat) (h : j < 16) : sL[j]? = some (.int .u8 (sN.getD j 0)) := by
  rw [show sL = sN.map (fun n : Int => Value.int .u8 n) from rfl, List.getElem?_map, get_at sN 0 j h]
  rfl
/-- What a numeric opcode takes, and what it answers. -/
def kT (op : Int) : Int × Int :=
  if op < 69 then (0, 0) else if op < 80 then (127, 127) else if op < 91 then (126, 127) else if op < 97 then (125, 127) else if op < 103 then (124, 127) else if op < 121 then (127, 127) else if op < 139 then (126, 126) else if op < 153 then (125, 125) else if op < 167 then (124, 124)
  else if op < 192 then (cN.getD ((op - 167).toNat * 2) 0, cN.getD ((op - 167).toNat * 2 + 1) 0) else if op < 64512 then (0, 0) else if op < 64520 then (sN.getD ((op - 64512).toNat * 2) 0, sN.getD ((op - 64512).toNat * 2 + 1) 0) else (0, 0)
theorem kind_any (op : Int) (hm : op ≤ 9223372036854775807) : ∃ c, Cm 12 #[.int .i64 op] (.tuple #[.int .u8 (kT op).1, .int .i64 c, .int .u8 (kT op).2, .bool (numB op)]) := by
  by_cases l0 : op < 69
  · refine ⟨0, ?_⟩
    rw [show numB op = false by unfold numB; simp; omega, show kT op = (0, 0) by unfold kT; rw [if_pos l0]]
    exact kind_no (find_lo l0)
  by_cases l1 : op < 80
  · refine ⟨opn 0 (op - 69), ?_⟩
    rw [show numB op = true by unfold numB; simp; omega, show kT op = (127, 127) by unfold kT; rw [if_neg l0, if_pos l1]]
    exact kn_0 (by omega) l1
  by_cases l2 : op < 91
  · refine ⟨opn 0 (op - 80), ?_⟩
    rw [show numB op = true by unfold numB; simp; omega, show kT op = (126, 127) by unfold kT; rw [if_neg l0, if_neg l1, if_pos l2]]
    exact kn_1 (by omega) l2
  by_cases l3 : op < 97
  · refine ⟨opn 1 (op - 91), ?_⟩
    rw [show numB op = true by unfold numB; simp; omega, show kT op = (125, 127) by unfold kT; rw [if_neg l0, if_neg l1, if_neg l2, if_pos l3]]
    exact kn_2 (by omega) l3
  by_cases l4 : op < 103
  · refine ⟨opn 1 (op - 97), ?_⟩
    rw [show numB op = true by unfold numB; simp; omega, show kT op = (124, 127) by unfold kT; rw [if_neg l0, if_neg l1, if_neg l2, if_neg l3, if_pos l4]]
    exact kn_3 (by omega) l4
  by_cases l5 : op < 121
  · refine ⟨opn 2 (op - 103), ?_⟩
    rw [show numB op = true by unfold numB; simp; omega, show kT op = (127, 127) by unfold kT; rw [if_neg l0, if_neg l1, if_neg l2, if_neg l3, if_neg l4, if_pos l5]]
    exact kn_4 (by omega) l5
  by_cases l6 : op < 139
  · refine ⟨opn 2 (op - 121), ?_⟩
    rw [show numB op = true by unfold numB; simp; omega, show kT op = (126, 126) by unfold kT; rw [if_neg l0, if_neg l1, if_neg l2, if_neg l3, if_neg l4, if_neg l5, if_pos l6]]
    exact kn_5 (by omega) l6
  by_cases l7 : op < 153
  · refine ⟨opn 3 (op - 139), ?_⟩
    rw [show numB op = true by unfold numB; simp; omega, show kT op = (125, 125) by unfold kT; rw [if_neg l0, if_neg l1, if_neg l2, if_neg l3, if_neg l4, if_neg l5, if_neg l6, if_pos l7]]
    exact kn_6 (by omega) l7
  by_cases l8 : op < 167
  · refine ⟨opn 3 (op - 153), ?_⟩
    rw [show numB op = true by unfold numB; simp; omega, show kT op = (124, 124) by unfold kT; rw [if_neg l0, if_neg l1, if_neg l2, if_neg l3, if_neg l4, if_neg l5, if_neg l6, if_neg l7, if_pos l8]]
    exact kn_7 (by omega) l8
  by_cases l9 : op < 192
  · refine ⟨1, ?_⟩
    rw [show numB op = true by unfold numB; simp; omega, show kT op = (cN.getD ((op - 167).toNat * 2) 0, cN.getD ((op - 167).toNat * 2 + 1) 0) by unfold kT; rw [if_neg l0, if_neg l1, if_neg l2, if_neg l3, if_neg l4, if_neg l5, if_neg l6, if_neg l7, if_neg l8, if_pos l9]]
    exact kn_8 (k := (op - 167).toNat) (cL_at _ (by omega)) (cL_at _ (by omega)) (by omega) (by omega)
  by_cases l10 : op < 64512
  · refine ⟨0, ?_⟩
    rw [show numB op = false by unfold numB; simp; omega, show kT op = (0, 0) by unfold kT; rw [if_neg l0, if_neg l1, if_neg l2, if_neg l3, if_neg l4, if_neg l5, if_neg l6, if_neg l7, if_neg l8, if_neg l9, if_pos l10]]
    exact kind_no (find_mi (by omega) l10)
  by_cases l11 : op < 64520
  · refine ⟨1, ?_⟩
    rw [show numB op = true by unfold numB; simp; omega, show kT op = (sN.getD ((op - 64512).toNat * 2) 0, sN.getD ((op - 64512).toNat * 2 + 1) 0) by unfold kT; rw [if_neg l0, if_neg l1, if_neg l2, if_neg l3, if_neg l4, if_neg l5, if_neg l6, if_neg l7, if_neg l8, if_neg l9, if_neg l10, if_pos l11]]
    exact kn_9 (k := (op - 64512).toNat) (sL_at _ (by omega)) (sL_at _ (by omega)) (by omega) (by omega)
  refine ⟨0, ?_⟩
  rw [show numB op = false by unfold numB; simp; omega, show kT op = (0, 0) by unfold kT; rw [if_neg l0, if_neg l1, if_neg l2, if_neg l3, if_neg l4, if_neg l5, if_neg l6, if_neg l7, if_neg l8, if_neg l9, if_neg l10, if_neg l11]]
  exact kind_no (find_hi (by omega) hm)
/-- The word that a name begins with. -/
def wT (t : Int) : List UInt8 := if t = 124 then [102, 54, 52, 46] else if t = 125 then [102, 51, 50, 46] else if t = 126 then [105, 54, 52, 46] else [105, 51, 50, 46]
def okK (op : Int) : Bool := let t := if op ≤ 102 then (kT op).1 else (kT op).2; decide (124 ≤ t) && decide (t ≤ 127) && decide (4 < (nm op).length) && (nm op).take 4 == wT t
theorem okK_all : ((List.range 123).all (fun i => okK ((69 + i : Nat) : Int)) && (List.range 8).all (fun i => okK ((64512 + i : Nat) : Int))) = true := by kernel_rfl
theorem okK_at {op : Int} (h : numB op = true) : okK op = true := by
  have h1 := okK_all
  rw [Bool.and_eq_true] at h1
  unfold numB at h
  simp at h
  by_cases hc : op < 192
  · have := List.all_eq_true.1 h1.1 (op - 69).toNat (List.mem_range.2 (by omega))
    rwa [show ((69 + (op - 69).toNat : Nat) : Int) = op by omega] at this
  · have := List.all_eq_true.1 h1.2 (op - 64512).toNat (List.mem_range.2 (by omega))
    rwa [show ((64512 + (op - 64512).toNat : Nat) : Int) = op by omega] at this

end Go.Proofs.YtkpdanjfdcoldaaDoor
