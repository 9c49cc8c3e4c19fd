/- ScQ, Opn. -/
import Derived.Test.YtalahdkgigcpfaaDoorG33
import Derived.Test.YtalahdkgigcpfaaDoorG34
import Derived.Test.YtalahdkgigcpfaaDoorG36
import Derived.ProofKit
import Derived.Lib.SmallJoins
import Derived.ChangeSlices
import Derived.Carry
namespace Go.Proofs.YtalahdkgigcpfaaDoor
open Go.RowKit

set_option maxHeartbeats 1000000 in
set_option maxRecDepth 100000 in
theorem at_any {c : Nat} {a : Option Addr} {len cap k : Nat} {xs : List Int} {e : Int} {W : World} (h : Cs c a len cap xs k e W) : Calls Tryd.prog 14 #[.pointer (some ⟨c, 0, none⟩)] W fun r W' => r = .returned (.int .i64 (k : Int)) ∧ W' = W := by
  have h1 := h.1.2.1
  clear h
  go_enter Tryd.func14, Tryd.ntmps14
  go_wp2_with fail
  go_ret
  exact ⟨rfl, rfl⟩
set_option maxHeartbeats 1000000 in
set_option maxRecDepth 100000 in
theorem err_any {c : Nat} {a : Option Addr} {len cap k : Nat} {xs : List Int} {e : Int} {W : World} (h : Cs c a len cap xs k e W) : Calls Tryd.prog 13 #[.pointer (some ⟨c, 0, none⟩)] W fun r W' => r = .returned (.int .i64 e) ∧ W' = W := by
  have h2 := h.1.2.2.1
  clear h
  go_enter Tryd.func13, Tryd.ntmps13
  go_wp2_with fail
  go_ret
  exact ⟨rfl, rfl⟩
set_option maxHeartbeats 1000000 in
set_option maxRecDepth 100000 in
theorem err_nil {W : World} : Calls Tryd.prog 13 #[.pointer none] W fun r W' => r = .returned (.int .i64 1) ∧ W' = W := by
  go_enter Tryd.func13, Tryd.ntmps13
  go_wp2_with fail
  go_ret
  exact ⟨rfl, rfl⟩
set_option maxHeartbeats 1000000 in
set_option maxRecDepth 100000 in
theorem left2_any {c : Nat} {a : Option Addr} {len cap k : Nat} {xs : List Int} {e : Int} {W : World} (h : Cs c a len cap xs k e W) : Calls Tryd.prog 23 #[.pointer (some ⟨c, 0, none⟩)] W fun r W' => r = .returned (.int .i64 ((len : Int) - k)) ∧ Fr [] W W' := by
  have HL := hide (left_any h.1 h.2.2.2.2.1 h.2.2.2.2.2)
  clear h
  go_enter Tryd.func23, Tryd.ntmps23
  go_wp2_with fail
  refine (unhide HL).mono ?_
  rintro _ w1 ⟨rfl, hF⟩
  have HF := hide hF
  clear hF
  go_wp2_with fail
  go_ret
  exact ⟨rfl, unhide HF⟩
end Go.Proofs.YtalahdkgigcpfaaDoor
namespace Go.Proofs.YtalahdkgigcpfaaDoor
open Go.ChangeShapes Go.WideShapes Go.ChangeAt Go.RowKit Go.Joins

theorem Tryd.own : ownKnob Tryd.prog.godebug = none := by kernel_rfl
theorem laid_out : laidOutB Tryd.prog = true := by kernel_rfl
/-- Behind a call that only makes new memory an argument reads as it did. -/
theorem carry {H : Type} {enc : TypeId × Value → H} {t : TypeId} {W W' : World} {v : Value} {d : DataW H} {ps : List MemPlace} (h : DataW.Trod enc Tryd.prog W 0 (fun _ => true) true t v d ps) (hb : Below W.heap.size W W') (hr : Tryd.prog.readableRec t = true) (hrow : t < Tryd.prog.types.size) :
    DataW.Trod enc Tryd.prog W' 0 (fun b => decide (b < W.heap.size)) true t v d ps := by
  refine Below.trod laid_out hr hrow h hb ?_
  obtain ⟨fuel, hf⟩ := h
  exact DataW.trod_lt fuel _ _ _ hf
theorem byte_of_wf {x : Int} (h : (Lit.int .u8 x).wf = true) : 0 ≤ x ∧ x < 256 := by
  simp [Lit.wf, IntKind.min, IntKind.max, IntKind.signed, IntKind.bits] at h
  exact ⟨by omega, by omega⟩
theorem getD_take (zs : List Int) (len j : Nat) (h : j < len) : (zs.take len).getD j 0 = zs.getD j 0 := by
  simp [List.getD, h]
set_option maxRecDepth 100000 in
theorem spot_none {W : World} {base len cap : Nat} {a : Addr} (hv : Value.okWide Tryd.prog W .any base 22 (.slice (some a) len cap)) : a.spot = none := by
  simp only [Value.okWide, Tryd.underlying22, Cell.okWide, Cell.ok] at hv
  exact hv.2.2.2.1
set_option maxRecDepth 100000 in
/-- A row of bytes that came in. -/
theorem open_bytes {H : Type} {enc : TypeId × Value → H} {W : World} {base : Nat} {v : Value} {d : DataW H} {p : List MemPlace}
    (hv : Value.okWide Tryd.prog W .any base 22 v) (h : DataW.Trod enc Tryd.prog W 0 (fun _ => true) true 22 v d p) :
    ∃ (a : Option Addr) (len cap : Nat) (xs : List Int), v = .slice a len cap ∧ (len ≤ 140737488355328 → Sl W a len cap xs) ∧ Byt xs := by
  obtain ⟨a0, len, cap, rfl⟩ := okWide_slice Tryd.underlying22 hv
  obtain ⟨fuel, hf⟩ := h
  rcases open_ints Tryd.underlying22 Tryd.underlying5 (by kernel_rfl) hf with ⟨hcs, hx⟩ | ⟨a, len', cap', zs, hcs, _, hl, hm, hz, hx, hcell, hwz⟩
  · simp [Value.cells] at hcs
    obtain ⟨rfl, rfl, rfl⟩ := hcs
    exact ⟨none, 0, 0, [], rfl, fun _ => ⟨rfl, Nat.le_refl _, by omega, Or.inl ⟨rfl, rfl, rfl⟩⟩, fun z hz => by simp at hz⟩
  · simp [Value.cells] at hcs
    obtain ⟨rfl, rfl, rfl⟩ := hcs
    simp only [if_true] at hz
    obtain ⟨b, off, spot⟩ := a
    have hspot : spot = none := spot_none hv
    subst hspot
    refine ⟨some ⟨b, off, none⟩, len, cap, zs.take len, rfl, fun hle => ⟨by simp; omega, hl, hle, Or.inr ⟨b, off, rfl, fun j hj => ?_⟩⟩, fun z hm => byte_of_wf (hwz z (List.mem_of_mem_take hm))⟩
    rw [getD_take _ _ _ hj, ← add_plain]
    exact hcell j (by omega)
end Go.Proofs.YtalahdkgigcpfaaDoor
