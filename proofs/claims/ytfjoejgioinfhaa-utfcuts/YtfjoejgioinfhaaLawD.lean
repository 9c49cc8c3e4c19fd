/- The law UtfCuts of any input. -/
import Derived.Test.YtfjoejgioinfhaaLawC
namespace Go.Proofs.Ytfjoejgioinfhaa
open Go.RowKit

theorem sl_cell {w : World} {a : Option Addr} {len cap : Nat} {xs : List Int} (h : Sl w a len cap xs) (j : Nat) (hj : j < len) : ∃ b0 off0, a = some ⟨b0, off0, none⟩ ∧ w.cell? ⟨b0, off0 + j, none⟩ = some (.int .u8 (xs.getD j 0)) := by
  rcases h.2.2.2 with ⟨_, h, _⟩ | ⟨b, off, h, k⟩
  · omega
  · exact ⟨b, off, h, k j hj⟩
theorem sl_take {w : World} {b off len cap : Nat} {xs : List Int} (h : Sl w (some ⟨b, off, none⟩) len cap xs) (k : Nat) (hk : k ≤ len) : Sl w (some ⟨b, off, none⟩) k cap (xs.take k) := by
  obtain ⟨h1, h2, h3, h4⟩ := h
  refine ⟨by rw [List.length_take]; omega, by omega, by omega, ?_⟩
  rcases h4 with ⟨h4, _⟩ | ⟨b', off', h5, h6⟩
  · cases h4
  · exact Or.inr ⟨b', off', h5, fun j hj => by rw [h6 j (by omega), getD_takeN _ _ _ hj]⟩
theorem sl_drop {w : World} {b off len cap : Nat} {xs : List Int} (h : Sl w (some ⟨b, off, none⟩) len cap xs) (k : Nat) (hk : k ≤ len) : Sl w (some ⟨b, off + k, none⟩) (len - k) (cap - k) (xs.drop k) := by
  obtain ⟨h1, h2, h3, h4⟩ := h
  refine ⟨by rw [List.length_drop]; omega, by omega, by omega, ?_⟩
  rcases h4 with ⟨h4, _⟩ | ⟨b', off', h5, h6⟩
  · cases h4
  · injection h5 with h5
    injection h5 with e1 e2 e3
    subst e1
    subst e2
    exact Or.inr ⟨b, off + k, rfl, fun j hj => by rw [getD_drop, Nat.add_assoc]; exact h6 (k + j) (by omega)⟩
theorem cuts_any {a a' : Option Addr} {len cap len' cap' : Nat} {xs ys : List Int} (k : Int) (W : World) (hX : Byt xs) (hS : len ≤ 140737488355328 → Sl W a len cap xs) (hY : Byt ys) (hT : len' ≤ 140737488355328 → Sl W a' len' cap' ys) :
    Calls Try.prog 6 #[.slice a len cap, .slice a' len' cap', .int .i64 k] W fun r W' => r = .returned (.bool true) ∧ Below W.heap.size W W' := by
  by_cases h : (200 : Int) < (len : Int) ∨ (200 : Int) < (len' : Int) ∨ k < 0
  · exact cuts_big W h
  · have hS := hS (by omega)
    have hT := hT (by omega)
    obtain ⟨k, rfl⟩ := Int.eq_ofNat_of_zero_le (show 0 ≤ k by omega)
    have HC : Hid (∀ W', Below W.heap.size W W' → Calls Try.prog 10 #[.slice a len cap] W' fun r W'' => r = .returned (.tuple #[.int .i64 (((cnt xs).getD 0 : Nat) : Int), .bool (cnt xs).isSome]) ∧ Below W'.heap.size W' W'') := hide fun W' hb => count_any hX (hS.below hb)
    have HCE : Hid (∀ W', Below W.heap.size W W' → ∀ j, j < len → ∃ b0 off0, a = some ⟨b0, off0, none⟩ ∧ W'.cell? ⟨b0, off0 + j, none⟩ = some (.int .u8 (xs.getD j 0))) := hide fun W' hb j hj => sl_cell (hS.below hb) j hj
    have HLO : Hid (lows xs len = true → (cnt xs).isSome = true ∧ (((cnt xs).getD 0 : Nat) : Int) = (len : Int)) := hide (fun hlo => by
      have e := cnt_low xs (fun x hx => by
        obtain ⟨j, hj, rfl⟩ := List.getElem_of_mem hx
        have h1 := lows_iff xs len hlo j (by rw [← hS.1]; exact hj)
        rw [List.getD_eq_getElem?_getD, List.getElem?_eq_getElem hj] at h1
        exact ⟨(hX _ hx).1, h1⟩)
      rw [e]
      exact ⟨rfl, by rw [← hS.1]; rfl⟩)
    have V := fun W' (hb : Below W.heap.size W W') => valid_any hY (hT.below hb)
    cases hv : cnt ys with
    | none =>
      rw [hv] at V
      exact cuts_no W (by omega) (by omega) HC HCE HLO (hide V)
    | some n =>
      rw [hv] at V
      by_cases hk : len' ≤ k
      · exact cuts_far W (by omega) (by omega) hk HC HCE HLO (hide V)
      · rcases hT.2.2.2 with ⟨_, h0, _⟩ | ⟨b, off, rfl, h4⟩
        · omega
        · have V1 := fun W' (hb : Below W.heap.size W W') => valid_any (byt_take hY k) (sl_take (hT.below hb) k (by omega))
          have V2 := fun W' (hb : Below W.heap.size W W') => valid_any (byt_drop hY k) (sl_drop (hT.below hb) k (by omega))
          have HCB : Hid (∀ W', Below W.heap.size W W' → W'.cell? ⟨b, off + k, none⟩ = some (.int .u8 (ys.getD k 0))) := hide (fun W' hb => by
            obtain ⟨b0, off0, e, h⟩ := sl_cell (hT.below hb) k (by omega)
            injection e with e
            injection e with e1 e2 e3
            subst e1
            subst e2
            exact h)
          obtain ⟨cs, c1, c2, c3⟩ := cnt_some ys.length ys n (Nat.le_refl _) hY hv
          have hc := cut_any cs k c1 (by rw [← c2, hT.1]; omega)
          rw [← c2] at hc
          rcases hc with ⟨q1, q2, q3⟩ | ⟨q1, q2, q3⟩
          · rw [q2] at V1
            rw [q3] at V2
            exact cuts_in W (by omega) (by omega) (by omega) hT.2.1 q1 HC HCE HLO HCB (hide V) (hide V1) (hide V2)
          · rw [q2] at V1
            rw [q3] at V2
            by_cases hlo : 128 ≤ ys.getD k 0
            · exact cuts_hi W (by omega) (by omega) (by omega) hT.2.1 ⟨hlo, by omega⟩ HC HCE HLO HCB (hide V) (hide V1) (hide V2)
            · exact cuts_lo W (by omega) (by omega) (by omega) hT.2.1 hlo HC HCE HLO HCB (hide V) (hide V1) (hide V2)
end Go.Proofs.Ytfjoejgioinfhaa
