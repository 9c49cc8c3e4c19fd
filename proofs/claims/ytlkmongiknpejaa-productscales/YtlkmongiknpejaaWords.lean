/- A list of words that came in. -/
import Derived.Test.YtlkmongiknpejaaTotal
import Derived.Test.YtlkmongiknpejaaNumber
import Derived.ChangeSlices
namespace Go.Proofs.Ytlkmongiknpejaa
open Go.ChangeShapes Go.WideShapes Go.ChangeAt Go.RowKit Go.Joins
open Go.Proofs.Ytlkmongiknpejaa.W

theorem getD_take (zs : List Int) (len j : Nat) (h : j < len) : (zs.take len).getD j 0 = zs.getD j 0 := by
  simp [List.getD, h]

set_option maxRecDepth 100000 in
/-- A list of words that came in, and how it reads in any later memory. -/
theorem open_words {H : Type} {enc : TypeId × Value → H} {W : World} {base : Nat} {v : Value} {d : DataW H} {p : List MemPlace}
    (hv : Value.okWide Try.prog W .any base 27 v) (h : DataW.Trod enc Try.prog W 0 (fun _ => true) true 27 v d p) :
    ∃ (a : Option Addr) (len cap : Nat) (zs : List Int), v = .slice a len cap ∧ Rd W a len zs ∧ (∀ z ∈ zs, Wrd z) ∧ ∀ W', Below W.heap.size W W' → ∃ p', DataW.Trod enc Try.prog W' 0 (fun b => decide (b < W.heap.size)) true 27 v d p' := by
  obtain ⟨a0, len, cap, rfl⟩ := okWide_slice Try.underlying27 hv
  obtain ⟨fuel, hf⟩ := h
  rcases open_ints Try.underlying27 Try.underlying22 Try.cells22 hf with ⟨hcs, hx⟩ | ⟨a, len', cap', zs, hcs, _, hl, hm, hz, hx, hcell, hwz⟩
  · simp [Value.cells] at hcs
    obtain ⟨rfl, rfl, rfl⟩ := hcs
    simp only [Prod.mk.injEq] at hx
    obtain ⟨rfl, rfl⟩ := hx
    exact ⟨none, 0, 0, [], rfl, ⟨rfl, fun j hj => absurd hj (by omega)⟩, fun z hz => by simp at hz, fun W' _ => ⟨_, shut_slice_nil Try.underlying27⟩⟩
  · simp [Value.cells] at hcs
    obtain ⟨rfl, rfl, rfl⟩ := hcs
    simp only [Prod.mk.injEq] at hx
    obtain ⟨rfl, rfl⟩ := hx
    simp only [if_true] at hz
    refine ⟨some a, len, cap, zs.take len, rfl, ⟨by simp; omega, fun j hj => ?_⟩, fun z hm => word_of_wf (hwz z (List.mem_of_mem_take hm)), fun W' hb => ?_⟩
    · obtain ⟨b, off, spot⟩ := a
      have hspot : spot = none := by simpa [Addr.add] using World.cell?_spot (hcell 0 (by omega))
      subst hspot
      refine ⟨b, off, rfl, ?_⟩
      rw [getD_take _ _ _ hj, ← add_plain]
      exact hcell j (by omega)
    · have hcell' : ∀ i, i < zs.length → W'.cell? (a.add i) = some (.int .u64 (zs.getD i 0)) := fun i hi => by
        have hc := hcell i hi
        rw [hb.cell (World.block_lt_of_cell? W _ hc)]
        exact hc
      by_cases hz0 : zs.length = 0
      · have hc0 : cap = 0 := by omega
        have hl0 : len = 0 := by omega
        subst hc0
        subst hl0
        have t0 := shut_ints (enc := enc) (w := W') (base := 0) (spare := fun b => decide (b < W.heap.size)) (held := true) (a := a) (len := 0) (cap := 0) (zs := zs) 0 Try.underlying27 Try.underlying22 Try.cells22 (Nat.zero_le _) (Nat.le_refl _) hm (by simp [hz0]) hcell' hwz
        exact ⟨_, 2, by simpa [Value.cells] using t0⟩
      · have hspb : decide (a.block < W.heap.size) = true := by
          have := World.block_lt_of_cell? W _ (hcell 0 (by omega))
          rw [block_add] at this
          exact decide_eq_true this
        have t0 := shut_ints (enc := enc) (w := W') (base := 0) (spare := fun b => decide (b < W.heap.size)) (held := true) (a := a) (len := len) (cap := cap) (zs := zs) 0 Try.underlying27 Try.underlying22 Try.cells22 (Nat.zero_le _) hl hm (by simp only [hspb, if_true, hz]) hcell' hwz
        exact ⟨_, 2, by simpa [Value.cells] using t0⟩

end Go.Proofs.Ytlkmongiknpejaa
