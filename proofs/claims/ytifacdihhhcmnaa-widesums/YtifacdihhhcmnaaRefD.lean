/- The contract of the reference's Mod. -/
import Derived.Test.YtifacdihhhcmnaaRefC
namespace Go.Proofs.Ytifacdihhhcmnaa
open Go.RowKit

set_option maxHeartbeats 1000000 in
theorem refMod_any (a : Option Addr) (n c x : Nat) (w : World) (h : IsNat w (.slice a n c) x) :
    Calls Try.prog 17 #[.agg #[.slice a n c]] w fun e w' => ∃ s', e = .returned (.agg #[s']) ∧ IsNat w' s' (x % 340282366920938463463374607431768211456) ∧ Below w.heap.size w w' := by
  by_cases hn : 4 < n
  · obtain ⟨D, hH, hs, hC, rfl⟩ := h
    rcases hH with ⟨h1, h2⟩ | ⟨g, c', h1, h2, h3, h4, h5⟩
    · injection h1 with e1 e2 e3; omega
    · injection h1 with e1 e2 e3
      subst e1 e2 e3
      have ht : Holds w (.slice (some ⟨g, 0, none⟩) 4 c) (D.take 4) := by
        have hl : (D.take 4).length = 4 := by simp; omega
        exact Or.inr ⟨g, c, by rw [hl], h2, by omega, by omega, fun i hi => by rw [take_dg (by omega)]; exact h5 i (by omega)⟩
      have hv := val_take hs 4
      rw [pw_4] at hv
      have HT := hide ht; have HV := hide hv; have HS := hide (small_take hs 4)
      clear ht hv h5 hs hC
      have hn' : (4 : Int) < (D.length : Int) := by omega
      have hc4 : (4 : Int) ≤ (c : Int) := by omega
      generalize D.length = L at *
      go_enter Try.func17, Try.ntmps17
      go_wp2_with fail
      refine (trim_any _ (D.take 4) _ ((unhide HT).below (below2 _ _ _)) (unhide HS)).mono ?_
      rintro e w1 ⟨s', rfl, hN, hb⟩
      obtain ⟨a', n', c', rfl⟩ := hN.slice
      have hc : w1.cell? ⟨w.heap.size + 1, 0, none⟩ = some (.slice none 0 0) := by rw [hb.cell (by first | (simp; done) | (simp; omega))]; simp [go_sem]
      have hf : w1.frozen? ⟨w.heap.size + 1, 0, none⟩ = false := by rw [hb.frozen (by first | (simp; done) | (simp; omega))]; simp [go_sem]
      rw [unhide HV] at hN
      have HN := hide hN
      clear hN
      go_wp2
      refine bodyPost_ret (v := .agg #[.slice a' n' c']) (by simp [results, Try.results17, go_sem, hc]) rfl ⟨_, rfl, (unhide HN).store hc _, ?_⟩
      exact (bthen (below2 _ _ _) hb).setCell (by simp) _
  · have hx : x % 340282366920938463463374607431768211456 = x := by
      have := h.len.1
      have h4 := pw_le (show n ≤ 4 by omega)
      rw [pw_4] at h4
      exact Nat.mod_eq_of_lt (by omega)
    rw [hx]
    have H := hide h
    have hn' : ¬ (4 : Int) < (n : Int) := by omega
    clear h hx
    go_enter Try.func17, Try.ntmps17
    go_wp2
    exact bodyPost_ret (v := .agg #[.slice a n c]) (by simp [results, Try.results17, go_sem]) rfl ⟨_, rfl, ((unhide H).alloc _).alloc _, below2 _ _ _⟩

end Go.Proofs.Ytifacdihhhcmnaa
