/- What came in: words, and rows of bytes. -/
import Derived.Test.YtfjoejgioinfhaaUtA
import Derived.ProofKit
import Derived.Lib.SmallJoins
import Derived.ChangeSlices
namespace Go.Proofs.Ytfjoejgioinfhaa
open Go.ChangeShapes Go.WideShapes Go.ChangeAt Go.RowKit Go.Joins

theorem Try.own : ownKnob Try.prog.godebug = none := by kernel_rfl
theorem word_of_wf {x : Int} (h : (Lit.int .u64 x).wf = true) : 0 ≤ x ∧ x < 18446744073709551616 := by
  simp [Lit.wf, IntKind.min, IntKind.max, IntKind.signed, IntKind.bits] at h
  exact ⟨by omega, by omega⟩
theorem int_of_wf {x : Int} (h : (Lit.int .i64 x).wf = true) : -9223372036854775808 ≤ x ∧ x < 9223372036854775808 := by
  simp [Lit.wf, IntKind.min, IntKind.max, IntKind.signed, IntKind.bits] at h
  exact ⟨by omega, by omega⟩
theorem byte_of_wf {x : Int} (h : (Lit.int .u8 x).wf = true) : 0 ≤ x ∧ x < 256 := by
  simp [Lit.wf, IntKind.min, IntKind.max, IntKind.signed, IntKind.bits] at h
  exact ⟨by omega, by omega⟩
theorem getD_take (zs : List Int) (len j : Nat) (h : j < len) : (zs.take len).getD j 0 = zs.getD j 0 := by
  simp [List.getD, h]
theorem spot_none {W : World} {base len cap : Nat} {a : Addr} (hv : Value.okWide Try.prog W .any base 22 (.slice (some a) len cap)) : a.spot = none := by
  simp only [Value.okWide, Try.underlying22, Cell.okWide, Cell.ok] at hv
  exact hv.2.2.2.1
set_option maxRecDepth 100000 in
/-- A row of bytes that came in, and how it reads in any later memory. -/
theorem open_bytes {H : Type} {enc : TypeId × Value → H} {W : World} {base : Nat} {v : Value} {d : DataW H} {p : List MemPlace}
    (hv : Value.okWide Try.prog W .any base 22 v) (h : DataW.Trod enc Try.prog W 0 (fun _ => true) true 22 v d p) :
    ∃ (a : Option Addr) (len cap : Nat) (xs : List Int), v = .slice a len cap ∧ (len ≤ 140737488355328 → Sl W a len cap xs) ∧ Byt xs ∧ ∀ W', Below W.heap.size W W' → ∃ p', DataW.Trod enc Try.prog W' 0 (fun b => decide (b < W.heap.size)) true 22 v d p' := by
  obtain ⟨a0, len, cap, rfl⟩ := okWide_slice Try.underlying22 hv
  obtain ⟨fuel, hf⟩ := h
  rcases open_ints Try.underlying22 Try.underlying5 (by kernel_rfl) hf with ⟨hcs, hx⟩ | ⟨a, len', cap', zs, hcs, _, hl, hm, hz, hx, hcell, hwz⟩
  · simp [Value.cells] at hcs
    obtain ⟨rfl, rfl, rfl⟩ := hcs
    simp only [Prod.mk.injEq] at hx
    obtain ⟨rfl, rfl⟩ := hx
    exact ⟨none, 0, 0, [], rfl, fun _ => ⟨rfl, Nat.le_refl _, by omega, Or.inl ⟨rfl, rfl, rfl⟩⟩, fun z hz => by simp at hz, fun W' _ => ⟨_, shut_slice_nil Try.underlying22⟩⟩
  · simp [Value.cells] at hcs
    obtain ⟨rfl, rfl, rfl⟩ := hcs
    simp only [Prod.mk.injEq] at hx
    obtain ⟨rfl, rfl⟩ := hx
    simp only [if_true] at hz
    obtain ⟨b, off, spot⟩ := a
    have hspot : spot = none := spot_none hv
    subst hspot
    refine ⟨some ⟨b, off, none⟩, len, cap, zs.take len, rfl, fun hle => ⟨by simp; omega, hl, hle, Or.inr ⟨b, off, rfl, fun j hj => ?_⟩⟩, fun z hm => byte_of_wf (hwz z (List.mem_of_mem_take hm)), fun W' hb => ?_⟩
    · rw [getD_take _ _ _ hj, ← add_plain]
      exact hcell j (by omega)
    · have hcell' : ∀ i, i < zs.length → W'.cell? ((⟨b, off, none⟩ : Addr).add i) = some (.int .u8 (zs.getD i 0)) := fun i hi => by
        have hc := hcell i hi
        rw [hb.cell (World.block_lt_of_cell? W _ hc)]
        exact hc
      by_cases hz0 : zs.length = 0
      · have hc0 : cap = 0 := by omega
        have hl0 : len = 0 := by omega
        subst hc0
        subst hl0
        have t0 := shut_ints (enc := enc) (w := W') (base := 0) (spare := fun b => decide (b < W.heap.size)) (held := true) (a := ⟨b, off, none⟩) (len := 0) (cap := 0) (zs := zs) 0 Try.underlying22 Try.underlying5 (by kernel_rfl) (Nat.zero_le _) (Nat.le_refl _) hm (by simp [hz0]) hcell' hwz
        exact ⟨_, 2, by simpa [Value.cells] using t0⟩
      · have hspb : decide (b < W.heap.size) = true := by
          have := World.block_lt_of_cell? W _ (hcell 0 (by omega))
          rw [block_add] at this
          exact decide_eq_true this
        have t0 := shut_ints (enc := enc) (w := W') (base := 0) (spare := fun b => decide (b < W.heap.size)) (held := true) (a := ⟨b, off, none⟩) (len := len) (cap := cap) (zs := zs) 0 Try.underlying22 Try.underlying5 (by kernel_rfl) (Nat.zero_le _) hl hm (by simp only [hspb, if_true, hz]) hcell' hwz
        exact ⟨_, 2, by simpa [Value.cells] using t0⟩
/-- A slice of runes that holds these. -/
def Sr (w : World) (a : Option Addr) (len cap : Nat) (xs : List Int) : Prop :=
  xs.length = len ∧ len ≤ cap ∧ len ≤ 140737488355328 ∧ (a = none ∧ len = 0 ∧ cap = 0 ∨ ∃ b off, a = some ⟨b, off, none⟩ ∧ ∀ j, j < len → w.cell? ⟨b, off + j, none⟩ = some (.int .i32 (xs.getD j 0)))
def Rn (xs : List Int) : Prop := ∀ x ∈ xs, -2147483648 ≤ x ∧ x < 2147483648
theorem rune_of_wf {x : Int} (h : (Lit.int .i32 x).wf = true) : -2147483648 ≤ x ∧ x < 2147483648 := by
  simp [Lit.wf, IntKind.min, IntKind.max, IntKind.signed, IntKind.bits] at h
  exact ⟨by omega, by omega⟩
theorem spot_noneR {W : World} {base len cap : Nat} {a : Addr} (hv : Value.okWide Try.prog W .any base 37 (.slice (some a) len cap)) : a.spot = none := by
  simp only [Value.okWide, Try.underlying37, Cell.okWide, Cell.ok] at hv
  exact hv.2.2.2.1
set_option maxRecDepth 100000 in
/-- A row of runes that came in, and how it reads in any later memory. -/
theorem open_runes {H : Type} {enc : TypeId × Value → H} {W : World} {base : Nat} {v : Value} {d : DataW H} {p : List MemPlace}
    (hv : Value.okWide Try.prog W .any base 37 v) (h : DataW.Trod enc Try.prog W 0 (fun _ => true) true 37 v d p) :
    ∃ (a : Option Addr) (len cap : Nat) (xs : List Int), v = .slice a len cap ∧ (len ≤ 140737488355328 → Sr W a len cap xs) ∧ Rn xs ∧ ∀ W', Below W.heap.size W W' → ∃ p', DataW.Trod enc Try.prog W' 0 (fun b => decide (b < W.heap.size)) true 37 v d p' := by
  obtain ⟨a0, len, cap, rfl⟩ := okWide_slice Try.underlying37 hv
  obtain ⟨fuel, hf⟩ := h
  rcases open_ints Try.underlying37 Try.underlying21 (by kernel_rfl) hf with ⟨hcs, hx⟩ | ⟨a, len', cap', zs, hcs, _, hl, hm, hz, hx, hcell, hwz⟩
  · simp [Value.cells] at hcs
    obtain ⟨rfl, rfl, rfl⟩ := hcs
    simp only [Prod.mk.injEq] at hx
    obtain ⟨rfl, rfl⟩ := hx
    exact ⟨none, 0, 0, [], rfl, fun _ => ⟨rfl, Nat.le_refl _, by omega, Or.inl ⟨rfl, rfl, rfl⟩⟩, fun z hz => by simp at hz, fun W' _ => ⟨_, shut_slice_nil Try.underlying37⟩⟩
  · simp [Value.cells] at hcs
    obtain ⟨rfl, rfl, rfl⟩ := hcs
    simp only [Prod.mk.injEq] at hx
    obtain ⟨rfl, rfl⟩ := hx
    simp only [if_true] at hz
    obtain ⟨b, off, spot⟩ := a
    have hspot : spot = none := spot_noneR hv
    subst hspot
    refine ⟨some ⟨b, off, none⟩, len, cap, zs.take len, rfl, fun hle => ⟨by simp; omega, hl, hle, Or.inr ⟨b, off, rfl, fun j hj => ?_⟩⟩, fun z hm => rune_of_wf (hwz z (List.mem_of_mem_take hm)), fun W' hb => ?_⟩
    · rw [getD_take _ _ _ hj, ← add_plain]
      exact hcell j (by omega)
    · have hcell' : ∀ i, i < zs.length → W'.cell? ((⟨b, off, none⟩ : Addr).add i) = some (.int .i32 (zs.getD i 0)) := fun i hi => by
        have hc := hcell i hi
        rw [hb.cell (World.block_lt_of_cell? W _ hc)]
        exact hc
      by_cases hz0 : zs.length = 0
      · have hc0 : cap = 0 := by omega
        have hl0 : len = 0 := by omega
        subst hc0
        subst hl0
        have t0 := shut_ints (enc := enc) (w := W') (base := 0) (spare := fun b => decide (b < W.heap.size)) (held := true) (a := ⟨b, off, none⟩) (len := 0) (cap := 0) (zs := zs) 0 Try.underlying37 Try.underlying21 (by kernel_rfl) (Nat.zero_le _) (Nat.le_refl _) hm (by simp [hz0]) hcell' hwz
        exact ⟨_, 2, by simpa [Value.cells] using t0⟩
      · have hspb : decide (b < W.heap.size) = true := by
          have := World.block_lt_of_cell? W _ (hcell 0 (by omega))
          rw [block_add] at this
          exact decide_eq_true this
        have t0 := shut_ints (enc := enc) (w := W') (base := 0) (spare := fun b => decide (b < W.heap.size)) (held := true) (a := ⟨b, off, none⟩) (len := len) (cap := cap) (zs := zs) 0 Try.underlying37 Try.underlying21 (by kernel_rfl) (Nat.zero_le _) hl hm (by simp only [hspb, if_true, hz]) hcell' hwz
        exact ⟨_, 2, by simpa [Value.cells] using t0⟩
end Go.Proofs.Ytfjoejgioinfhaa
