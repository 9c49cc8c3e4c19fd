/- What the condition on package sign's variable gives the walks; the heap that the program's own initialiser leaves meets it. -/
import Derived.Test.YtahaocnlclkeaaaDoorLawA
import Derived.Test.YtahaocnlclkeaaaDoorTie
import Derived.ProofKit
import Derived.LaidMore
import Derived.OpenShut
import Derived.Stop.Joined
import Derived.Lib.SmallJoins
namespace Go.Proofs.YtahaocnlclkeaaaDoor
open Go.ChangeShapes Go.WideShapes Go.ChangeAt Go.WideElems Go.RowKit

def laidL : List (String × DataW Unit) := [("trunnion/sign.marks", Rows.laid_trunnion_sign_marks)]
theorem own : ownKnob Tryd.prog.godebug = none := by kernel_rfl
theorem gMarks : Tryd.prog.globalNamed "trunnion/sign.marks" = some 0 := by kernel_rfl
theorem tMarks : (Tryd.prog.globals[0]?).map (·.type) = some 42 := by kernel_rfl
/-- The heap that the initialiser leaves meets the condition. -/
theorem door_met (os : Os) (args : Array Value) : laidMetH Tryd.prog laidL ((World.doorLaid Tryd.prog 400 os).forCall (fun _ _ => 0) ⟨#[], args, []⟩).memory :=
  laidMetH_of_parts3 (fuel := 8) (laidMet_of_run' 8 (by kernel_rfl) (by kernel_rfl)) (by kernel_rfl) (by kernel_rfl)

theorem c3 : Tryd.prog.cellsOf 3 = 1 := by kernel_rfl
theorem c22 : Tryd.prog.cellsOf 22 = 1 := by kernel_rfl
theorem c41 : Tryd.prog.cellsOf 41 = 2 := by kernel_rfl
theorem c42 : Tryd.prog.cellsOf 42 = 4 := by kernel_rfl
/-- A mark that reads so lies so in memory. -/
theorem mark_cells {H : Type} {enc : TypeId × Value → H} {W : World} {base : Nat} {sp : Nat → Bool} {hd : Bool} {n : Nat} {cs : List Value} {x : DataW H × List MemPlace} {a c : Int}
    (h : DataW.trod enc Tryd.prog W base sp hd n 41 cs = some x) (hx : x.1 = .agg [.lit (.int .i64 a), .lit (.int .u64 c)]) : cs = [.int .i64 a, .int .u64 c] := by
  obtain ⟨y0, y1, m, rfl, hl, h0, h1⟩ := trod_struct2 Tryd.underlying41 h
  rw [c41] at hl
  obtain ⟨k0, e0, rfl, -⟩ := DataW.trod_int Tryd.underlying3 h0
  obtain ⟨k1, e1, rfl, -⟩ := DataW.trod_int Tryd.underlying22 h1
  simp only [DataW.agg.injEq, List.cons.injEq, DataW.lit.injEq, Lit.int.injEq, true_and, and_true] at hx
  obtain ⟨rfl, rfl⟩ := hx
  match cs, hl with
  | [v0, v1], _ =>
    simp [c3] at e0
    simp [c22] at e1
    rw [e0, e1]
theorem of_laid {W : World} (h : laidMetH Tryd.prog laidL W) : Mk W := by
  rw [MakeChecks.laidMetH_plain _ _ _ (by kernel_rfl)] at h
  obtain ⟨ps, ⟨g0, t0, cs0, f0, p0, q0, hg0, ht0, hv0, hd0, _, _⟩, _, _⟩ := h
  obtain rfl := Option.some.inj (gMarks.symm.trans hg0)
  obtain rfl := Option.some.inj (tMarks.symm.trans ht0)
  obtain ⟨xs, m1, rfl, hx1, hlen, hn3, hel⟩ := DataW.trod_array Tryd.underlying42 hd0
  rw [c42] at hlen
  have h0 := hel 0 (by decide)
  have h1 := hel 1 (by decide)
  rw [c41] at h0 h1
  have hc := fun o => World.var?_cell hg0 hv0 o
  obtain ⟨l⟩ := cs0
  obtain ⟨v0, v1, v2, v3, rfl⟩ : ∃ v0 v1 v2 v3, l = [v0, v1, v2, v3] := by
    match l, hlen with
    | [v0, v1, v2, v3], _ => exact ⟨v0, v1, v2, v3, rfl⟩
  match xs, hn3, hx1, h0, h1 with
  | [x0, x1], _, hx1, h0, h1 =>
    simp only [Prod.mk.injEq, List.map_cons, List.map_nil] at hx1
    have hx := hx1.1
    unfold Rows.laid_trunnion_sign_marks at hx
    simp only [DataW.agg.injEq, List.cons.injEq, and_true] at hx
    have k0 := mark_cells h0 hx.1.symm
    have k1 := mark_cells h1 hx.2.symm
    simp at k0 k1
    obtain ⟨rfl, rfl⟩ := k0
    obtain ⟨rfl, rfl⟩ := k1
    exact ⟨by simpa using hc 0, by simpa using hc 1, by simpa using hc 2, by simpa using hc 3⟩
theorem word_of_wf {x : Int} (h : (Lit.int .u64 x).wf = true) : 0 ≤ x ∧ x < 18446744073709551616 := by
  simp [Lit.wf, IntKind.min, IntKind.max, IntKind.signed, IntKind.bits] at h
  exact ⟨by omega, by omega⟩
end Go.Proofs.YtahaocnlclkeaaaDoor
