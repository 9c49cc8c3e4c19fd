/- What the condition on math/bits' table gives the walks; the heap that the program's own initialiser leaves meets it. -/
import Derived.Test.YtjlegmgpgfjciabDoorCsT
import Derived.Test.YtjlegmgpgfjciabDoorTie
import Derived.ProofKit
import Derived.LaidMore
import Derived.OpenShut
import Derived.Stop.Joined
import Derived.Lib.SmallJoins
namespace Go.Proofs.YtjlegmgpgfjciabDoor
open Go.ChangeShapes Go.WideShapes Go.ChangeAt Go.WideElems Go.RowKit
open Go.Proofs.YtjlegmgpgfjciabDoor.W

def laidL : List (String × DataW Unit) := [("math/bits.deBruijn64tab", Rows.laid_math_bits_deBruijn64tab)]
theorem own : ownKnob Tryd.prog.godebug = none := by kernel_rfl
theorem gTab : Tryd.prog.globalNamed "math/bits.deBruijn64tab" = some 0 := by kernel_rfl
theorem tTab : (Tryd.prog.globals[0]?).map (·.type) = some 51 := by kernel_rfl
/-- The heap that the initialiser leaves meets the condition. -/
theorem door_met (os : Os) (args : Array Value) : laidMetH Tryd.prog laidL ((World.doorLaid Tryd.prog 400 os).forCall (fun _ _ => 0) ⟨#[], args, []⟩).memory :=
  laidMetH_of_parts3 (fuel := 8) (laidMet_of_run' 8 (by kernel_rfl) (by kernel_rfl)) (by kernel_rfl) (by kernel_rfl)
theorem c5 : Tryd.prog.cellsOf 5 = 1 := by kernel_rfl
theorem tab_datum {H : Type} : (Rows.laid_math_bits_deBruijn64tab : DataW H) = .agg (Lib.deBruijn64tab.map fun n : Nat => .lit (.int .u8 (n : Int))) := rfl
theorem of_laid {W : World} (h : laidMetH Tryd.prog laidL W) : Mk W := by
  rw [MakeChecks.laidMetH_plain _ _ _ (by kernel_rfl)] at h
  obtain ⟨ps, ⟨g0, t0, cs0, f0, p0, q0, hg0, ht0, hv0, hd0, _, _⟩, _, _⟩ := h
  obtain rfl := Option.some.inj (gTab.symm.trans hg0)
  obtain rfl := Option.some.inj (tTab.symm.trans ht0)
  obtain ⟨xs, m1, rfl, hx1, hlen, hn3, hel⟩ := DataW.trod_array Tryd.underlying51 hd0
  simp only [Prod.mk.injEq] at hx1
  have hx := hx1.1
  rw [tab_datum] at hx
  injection hx with hx
  intro j hj
  have hj' := hel j hj
  rw [c5, Nat.mul_one, List.getElem?_eq_getElem (show j < xs.length by omega)] at hj'
  obtain ⟨k, e0, e1, -⟩ := DataW.trod_int Tryd.underlying5 hj'
  have h1 : (xs.map (·.1))[j]? = some (.lit (.int .u8 k)) := by
    rw [List.getElem?_map, List.getElem?_eq_getElem (show j < xs.length by omega), e1]
    rfl
  have hl : Lib.deBruijn64tab.length = 64 := rfl
  obtain ⟨d, hd⟩ : ∃ d, Lib.deBruijn64tab[j]? = some d := ⟨_, List.getElem?_eq_getElem (show j < Lib.deBruijn64tab.length by rw [hl]; exact hj)⟩
  rw [← hx, List.getElem?_map, hd] at h1
  simp only [Option.map_some, Option.some.injEq, DataW.lit.injEq, Lit.int.injEq, true_and] at h1
  have h2 : Lib.deBruijn64tab.getD j 0 = d := by
    rw [List.getD_eq_getElem?_getD, hd]
    rfl
  rw [h2, h1]
  have h3 := congrArg (·[0]?) e0
  simp [List.getElem?_drop] at h3
  have hc := World.var?_cell hg0 hv0 j
  rw [hc]
  simpa using h3
theorem word_of_wf {x : Int} (h : (Lit.int .u64 x).wf = true) : 0 ≤ x ∧ x < 18446744073709551616 := by
  simp [Lit.wf, IntKind.min, IntKind.max, IntKind.signed, IntKind.bits] at h
  exact ⟨by omega, by omega⟩
end Go.Proofs.YtjlegmgpgfjciabDoor
