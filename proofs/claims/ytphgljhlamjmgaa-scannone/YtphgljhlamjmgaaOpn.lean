/- What came in: words, rows of bytes, and rows of things that are asked for. -/
import Derived.Test.YtphgljhlamjmgaaLawF
import Derived.ProofKit
import Derived.Lib.SmallJoins
import Derived.ChangeSlices
import Derived.Carry
namespace Go.Proofs.Ytphgljhlamjmgaa
open Go.ChangeShapes Go.WideShapes Go.ChangeAt Go.RowKit Go.Joins

theorem Try.own : ownKnob Try.prog.godebug = none := by kernel_rfl
theorem laid_out : laidOutB Try.prog = true := by kernel_rfl
/-- Behind a call that only makes new memory an argument reads as it did. -/
theorem carry {H : Type} {enc : TypeId × Value → H} {t : TypeId} {W W' : World} {v : Value} {d : DataW H} {ps : List MemPlace} (h : DataW.Trod enc Try.prog W 0 (fun _ => true) true t v d ps) (hb : Below W.heap.size W W') (hr : Try.prog.readableRec t = true) (hrow : t < Try.prog.types.size) :
    DataW.Trod enc Try.prog W' 0 (fun b => decide (b < W.heap.size)) true t v d ps := by
  refine Below.trod laid_out hr hrow h hb ?_
  obtain ⟨fuel, hf⟩ := h
  exact DataW.trod_lt fuel _ _ _ hf
theorem byte_of_wf {x : Int} (h : (Lit.int .u8 x).wf = true) : 0 ≤ x ∧ x < 256 := by
  simp [Lit.wf, IntKind.min, IntKind.max, IntKind.signed, IntKind.bits] at h
  exact ⟨by omega, by omega⟩
theorem getD_take (zs : List Int) (len j : Nat) (h : j < len) : (zs.take len).getD j 0 = zs.getD j 0 := by
  simp [List.getD, h]
set_option maxRecDepth 100000 in
theorem spot_none {W : World} {base len cap : Nat} {a : Addr} (hv : Value.okWide Try.prog W .any base 22 (.slice (some a) len cap)) : a.spot = none := by
  simp only [Value.okWide, Try.underlying22, Cell.okWide, Cell.ok] at hv
  exact hv.2.2.2.1
set_option maxRecDepth 100000 in
theorem spot_none' {W : World} {base len cap : Nat} {a : Addr} (hv : Value.okWide Try.prog W .any base 23 (.slice (some a) len cap)) : a.spot = none := by
  simp only [Value.okWide, Try.underlying23, Cell.okWide, Cell.ok] at hv
  exact hv.2.2.2.1
set_option maxRecDepth 100000 in
/-- A row of bytes that came in. -/
theorem open_bytes {H : Type} {enc : TypeId × Value → H} {W : World} {base : Nat} {v : Value} {d : DataW H} {p : List MemPlace}
    (hv : Value.okWide Try.prog W .any base 22 v) (h : DataW.Trod enc Try.prog W 0 (fun _ => true) true 22 v d p) :
    ∃ (a : Option Addr) (len cap : Nat) (xs : List Int), v = .slice a len cap ∧ (len ≤ 140737488355328 → Sl W a len cap xs) ∧ Byt xs := by
  obtain ⟨a0, len, cap, rfl⟩ := okWide_slice Try.underlying22 hv
  obtain ⟨fuel, hf⟩ := h
  rcases open_ints Try.underlying22 Try.underlying5 (by kernel_rfl) hf with ⟨hcs, hx⟩ | ⟨a, len', cap', zs, hcs, _, hl, hm, hz, hx, hcell, hwz⟩
  · simp [Value.cells] at hcs
    obtain ⟨rfl, rfl, rfl⟩ := hcs
    exact ⟨none, 0, 0, [], rfl, fun _ => ⟨rfl, Nat.le_refl _, by omega, Or.inl ⟨rfl, rfl, rfl⟩⟩, fun z hz => by simp at hz⟩
  · simp [Value.cells] at hcs
    obtain ⟨rfl, rfl, rfl⟩ := hcs
    simp only [if_true] at hz
    obtain ⟨b, off, spot⟩ := a
    have hspot : spot = none := spot_none hv
    subst hspot
    refine ⟨some ⟨b, off, none⟩, len, cap, zs.take len, rfl, fun hle => ⟨by simp; omega, hl, hle, Or.inr ⟨b, off, rfl, fun j hj => ?_⟩⟩, fun z hm => byte_of_wf (hwz z (List.mem_of_mem_take hm))⟩
    rw [getD_take _ _ _ hj, ← add_plain]
    exact hcell j (by omega)
set_option maxRecDepth 100000 in
theorem open_op {H : Type} {enc : TypeId × Value → H} {W : World} {base : Nat} {v : Value} {d : DataW H} {p : List MemPlace}
    (hv : Value.okWide Try.prog W .any base 31 v) (h : DataW.Trod enc Try.prog W 0 (fun _ => true) true 31 v d p) : ∃ x y : Int, v = .agg #[.int .i64 x, .int .i64 y] := by
  obtain ⟨v0, v1, y0, y1, n, rfl, _, _, h0, h1⟩ := open_agg2 Try.underlying31 (by kernel_rfl) (by kernel_rfl) hv h
  obtain ⟨x, hx, _⟩ := DataW.trod_int Try.underlying3 h0
  obtain ⟨y, hy, _⟩ := DataW.trod_int Try.underlying3 h1
  injection hx with hx
  injection hy with hy
  subst hx hy
  exact ⟨x, y, rfl⟩
/-- A cell's number. -/
def numAt (W : World) (b o : Nat) : Int := intOf ((W.cell? ⟨b, o, none⟩).getD undef)
set_option maxRecDepth 100000 in
theorem open_ops {H : Type} {enc : TypeId × Value → H} {W : World} {base : Nat} {v : Value} {d : DataW H} {p : List MemPlace}
    (hv : Value.okWide Try.prog W .any base 23 v) (h : DataW.Trod enc Try.prog W 0 (fun _ => true) true 23 v d p) :
    ∃ (a : Option Addr) (len cap : Nat) (os : List (Int × Int)), v = .slice a len cap ∧ Ro W a len cap os := by
  obtain ⟨a0, len, cap, rfl⟩ := okWide_slice Try.underlying23 hv
  obtain ⟨fuel, hf⟩ := h
  rcases DataW.trod_slice Try.underlying23 hf with ⟨hcs, _⟩ | ⟨a, len', cap', elems, rest, n, _, hcs, _, _, hl, _, hlen, hel, _, _⟩
  · simp [Value.cells] at hcs
    obtain ⟨rfl, rfl, rfl⟩ := hcs
    exact ⟨none, 0, 0, [], rfl, rfl, Nat.le_refl _, Or.inl ⟨rfl, rfl, rfl⟩⟩
  · simp [Value.cells] at hcs
    obtain ⟨rfl, rfl, rfl⟩ := hcs
    obtain ⟨b, off, spot⟩ := a
    have hspot : spot = none := spot_none' hv
    subst hspot
    have hC : Try.prog.cellsOf 31 = 2 := by kernel_rfl
    have hI : Try.prog.cellsOf 3 = 1 := by kernel_rfl
    rw [hC] at hel
    have each : ∀ i, i < len → ∃ K m : Int, W.cell? ⟨b, off + i * 2, none⟩ = some (.int .i64 K) ∧ W.cell? ⟨b, off + i * 2 + 1, none⟩ = some (.int .i64 m) := by
      intro i hi
      have h1 := hel i hi
      rw [List.getElem?_eq_getElem (by omega), Option.bind_eq_some_iff] at h1
      obtain ⟨cs, hcs, hy⟩ := h1
      obtain ⟨y0, y1, m, _, hl2, t0, t1⟩ := trod_struct2 Try.underlying31 hy
      rw [hC] at hl2
      obtain ⟨c0, c1, rfl⟩ : ∃ c0 c1, cs = [c0, c1] := by
        match cs, hl2 with
        | [c0, c1], _ => exact ⟨c0, c1, rfl⟩
      obtain ⟨x, hx, _⟩ := DataW.trod_int Try.underlying3 t0
      obtain ⟨y, hy2, _⟩ := DataW.trod_int Try.underlying3 t1
      simp [hI] at hx hy2
      subst hx hy2
      have h2 := (World.cells?_some hcs).2.2
      have e0 := h2 0 (by omega)
      have e1 := h2 1 (by omega)
      refine ⟨x, y, ?_, ?_⟩
      · rw [add_plain, add_plain] at e0; simpa using e0
      · rw [add_plain, add_plain] at e1; simpa using e1
    refine ⟨some ⟨b, off, none⟩, len, cap, (List.range len).map fun i => (numAt W b (off + i * 2), numAt W b (off + i * 2 + 1)), rfl, by simp, hl, Or.inr ⟨b, off, rfl, fun j hj => ?_⟩⟩
    obtain ⟨K, m, h0, h1⟩ := each j hj
    have hg : ((List.range len).map fun i => (numAt W b (off + i * 2), numAt W b (off + i * 2 + 1))).getD j (0, 0) = (numAt W b (off + j * 2), numAt W b (off + j * 2 + 1)) := by
      simp [List.getD, hj]
    rw [hg]
    dsimp only
    unfold numAt
    rw [h0, h1]
    exact ⟨rfl, rfl⟩
end Go.Proofs.Ytphgljhlamjmgaa
