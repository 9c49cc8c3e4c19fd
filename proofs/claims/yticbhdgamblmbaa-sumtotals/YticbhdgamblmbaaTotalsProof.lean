/- For every int w and every list of words the law SumTotals answers true, and w and the list read as before: any floats are added one by one; no condition. -/
import Derived.Test.YticbhdgamblmbaaG30
import Derived.Test.YticbhdgamblmbaaG36
import Derived.ChangeSlices
namespace Go.Proofs.Yticbhdgamblmbaa
open Go.ChangeShapes Go.WideShapes Go.ChangeAt Go.RowKit Go.Joins
open Go.Proofs.Yticbhdgamblmbaa.W

theorem sumTotals_any (w : Int) (a : Option Addr) (len cap : Nat) (zs : List Int) (W : World) (hr : Rd W a len zs) (hz : ∀ z ∈ zs, Wrd z) :
    Calls Try.prog 4 #[.int .i64 w, .slice a len cap] W fun r W' => r = .returned (.bool true) ∧ Below W.heap.size W W' := by
  obtain ⟨e, f, P, Q, b, h⟩ := wd_ex w
  have HK := fun W => refKnown_any h W
  have HW := hide awake_any
  by_cases hl : (100 : Int) < (len : Int)
  · exact totals_big a len cap W hl HW
  by_cases hf : f = 0
  · rw [ne_f hf] at HK
    have H0 : ∀ zs : List Int, sums (fun _ _ => 0) zs = 0 := by
      intro zs
      unfold sums
      induction zs with
      | nil => rfl
      | cons x xs ih => exact ih
    have HT := fun W' (hb : Below W.heap.size W W') => total_l (w := w) (A := fun _ _ => 0) a len cap zs W' (hr.below hb) (by omega) hz (fun _ _ _ _ => ⟨by omega, by omega⟩) (hide (fun W => zero_no h hf false W)) (hide (fun s z hs hz W => sumAdd_no h hf W hs.1 hs.2 hz.1 hz.2))
    rw [H0] at HT
    exact totals_no a len cap W hl HW (hide HT) (hide HK)
  · have k := h.known hf
    rw [ne_t hf] at HK
    have hA : ∀ s z, Wrd s → Wrd z → Wrd (addB f P Q b s z) := fun s z _ _ => add_bits k s z
    have HZ := fun W => zero_any false k.wd W
    rw [put_no k.f0, Int.zero_mul, Int.zero_add] at HZ
    exact totals_l a len cap zs W hr hl hz hA HW (hide (fun W' hb => total_l (w := w) a len cap zs W' (hr.below hb) (by omega) hz hA (hide HZ) (hide (fun s z hs hz W => sumAdd_any k W hs.1 hs.2 hz.1 hz.2)))) (hide rfl) (hide HK)
      (hide (fun s z hs hz W => refSum_any k W hs.1 hs.2 hz.1 hz.2))

theorem getD_take (zs : List Int) (len j : Nat) (h : j < len) : (zs.take len).getD j 0 = zs.getD j 0 := by
  simp [List.getD, h]

set_option maxRecDepth 100000 in
/-- A list of words that came in, and how it reads in any later memory. -/
theorem open_words {H : Type} {enc : TypeId × Value → H} {W : World} {base : Nat} {v : Value} {d : DataW H} {p : List MemPlace}
    (hv : Value.okWide Try.prog W .any base 27 v) (h : DataW.Trod enc Try.prog W 0 (fun _ => true) true 27 v d p) :
    ∃ (a : Option Addr) (len cap : Nat) (zs : List Int), v = .slice a len cap ∧ Rd W a len zs ∧ (∀ z ∈ zs, Wrd z) ∧ ∀ W', Below W.heap.size W W' → ∃ p', DataW.Trod enc Try.prog W' 0 (fun b => decide (b < W.heap.size)) true 27 v d p' := by
  obtain ⟨a0, len, cap, rfl⟩ := okWide_slice Try.underlying27 hv
  obtain ⟨fuel, hf⟩ := h
  rcases open_ints Try.underlying27 Try.underlying22 Try.cells22 hf with ⟨hcs, hx⟩ | ⟨a, len', cap', zs, hcs, _, hl, hm, hz, hx, hcell, hwz⟩
  · simp [Value.cells] at hcs
    obtain ⟨rfl, rfl, rfl⟩ := hcs
    simp only [Prod.mk.injEq] at hx
    obtain ⟨rfl, rfl⟩ := hx
    exact ⟨none, 0, 0, [], rfl, ⟨rfl, fun j hj => absurd hj (by omega)⟩, fun z hz => by simp at hz, fun W' _ => ⟨_, shut_slice_nil Try.underlying27⟩⟩
  · simp [Value.cells] at hcs
    obtain ⟨rfl, rfl, rfl⟩ := hcs
    simp only [Prod.mk.injEq] at hx
    obtain ⟨rfl, rfl⟩ := hx
    simp only [if_true] at hz
    refine ⟨some a, len, cap, zs.take len, rfl, ⟨by simp; omega, fun j hj => ?_⟩, fun z hm => word_of_wf (hwz z (List.mem_of_mem_take hm)), fun W' hb => ?_⟩
    · obtain ⟨b, off, spot⟩ := a
      have hspot : spot = none := by simpa [Addr.add] using World.cell?_spot (hcell 0 (by omega))
      subst hspot
      refine ⟨b, off, rfl, ?_⟩
      rw [getD_take _ _ _ hj, ← add_plain]
      exact hcell j (by omega)
    · have hcell' : ∀ i, i < zs.length → W'.cell? (a.add i) = some (.int .u64 (zs.getD i 0)) := fun i hi => by
        have hc := hcell i hi
        rw [hb.cell (World.block_lt_of_cell? W _ hc)]
        exact hc
      by_cases hz0 : zs.length = 0
      · have hc0 : cap = 0 := by omega
        have hl0 : len = 0 := by omega
        subst hc0
        subst hl0
        have t0 := shut_ints (enc := enc) (w := W') (base := 0) (spare := fun b => decide (b < W.heap.size)) (held := true) (a := a) (len := 0) (cap := 0) (zs := zs) 0 Try.underlying27 Try.underlying22 Try.cells22 (Nat.zero_le _) (Nat.le_refl _) hm (by simp [hz0]) hcell' hwz
        exact ⟨_, 2, by simpa [Value.cells] using t0⟩
      · have hspb : decide (a.block < W.heap.size) = true := by
          have := World.block_lt_of_cell? W _ (hcell 0 (by omega))
          rw [block_add] at this
          exact decide_eq_true this
        have t0 := shut_ints (enc := enc) (w := W') (base := 0) (spare := fun b => decide (b < W.heap.size)) (held := true) (a := a) (len := len) (cap := cap) (zs := zs) 0 Try.underlying27 Try.underlying22 Try.cells22 (Nat.zero_le _) hl hm (by simp only [hspb, if_true, hz]) hcell' hwz
        exact ⟨_, 2, by simpa [Value.cells] using t0⟩

set_option maxRecDepth 100000 in
theorem sumTotals_lifted (os : Os) (started : os.Started) (H : Type) (enc : TypeId × Value → H) :
    ReturnsInHanded {} Try.checked os 4 .any (Rows.sumTotalsSpec.pre6 enc Try.prog Try.f4 Rows.sumTotalsRow.domain false) (Rows.sumTotalsSpec.post enc Try.prog Try.f4 false true false false) := by
  refine returnsInHanded_of_change (C := Try.checked) Try.own started (by kernel_rfl) Try.func4
    (ChangeSpec.witness6 (enc := enc) (C := Try.checked) false ⟨#[], #[.int .i64 0, .slice none 0 0], []⟩ 8 (by kernel_rfl) (by kernel_rfl) (by kernel_rfl) (by kernel_rfl)) ?_
  intro W base args ds gs before hval0 hW hcnd _
  have hval : ∀ (j : Nat) t v, Try.f4.params[j]? = some t → args[j]? = some v → Value.okWide Try.prog W .any base t v := hval0
  have hW' := hW
  obtain ⟨p, q, hA0, hV, rfl, hfz, hnd⟩ := hW
  have hA : DataW.TrodAll enc Try.prog W 0 (fun _ => true) true Try.f4.params.toList args.toList ds p := hA0
  rw [Try.params4] at hA hval
  obtain ⟨v0, v1, d0, d1, p0, p1, rfl, rfl, rfl, h0, h1⟩ := trodAll_two hA
  obtain ⟨rfl, rfl⟩ := trodVars_none hV
  obtain ⟨w, rfl, rfl, rfl, ww⟩ := open_int Try.underlying3 (hval 0 3 v0 rfl rfl) h0
  obtain ⟨a, len, cap, zs, rfl, hr, hz, rd⟩ := open_words (hval 1 27 v1 rfl rfl) h1
  clear hA0 hval0
  refine (sumTotals_any w a len cap zs W hr hz).mono fun e W' ⟨he, hb⟩ => ?_
  subst he
  obtain ⟨p', hp'⟩ := rd W' hb
  exact ⟨_, rfl, ⟨_, _, _, [], _, [], hW', trodAll_mk1 (shut_bool Try.underlying4 _), trodAll_mk2 (shut_int Try.underlying3 ww) hp', rfl, hb.frame _, fun h => by cases h⟩⟩

theorem sumTotals_holds : Rows.SumTotalsSaid :=
  OpenClaim.holds_of_wide 4 Try.f4 rfl rfl rfl rfl rfl rfl rfl ⟨rfl, rfl, rfl, rfl, rfl⟩ rfl rfl rfl rfl rfl (by kernel_rfl) Try.func4 (by kernel_rfl)
    (of_decide_eq_true (by kernel_rfl)) (by unfold Func.isWrapper; first | (rw [if_pos (by decide +kernel)]; kernel_rfl) | (rw [if_neg (by decide +kernel)]; exact ⟨rfl, rfl⟩))
    (fun os started H enc _ => sumTotals_lifted os started H enc)

#print axioms sumTotals_holds
end Go.Proofs.Yticbhdgamblmbaa
