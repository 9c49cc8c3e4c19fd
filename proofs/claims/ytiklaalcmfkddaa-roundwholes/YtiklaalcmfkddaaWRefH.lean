/- Contracts of the reference's Pair and of the statements' own Nat and is. -/
import Derived.Test.YtiklaalcmfkddaaWRefG
namespace Go.Proofs.Ytiklaalcmfkddaa.W
open Go.RowKit

theorem IsNat.short {w : World} {a : Option Addr} {n c x k : Nat} (h : IsNat w (.slice a n c) x) (hx : x < pw k) : n ≤ k := by
  obtain ⟨D, hH, hs, hC, rfl⟩ := h
  have := canon_len hC hx
  rcases hH with ⟨h1, h2⟩ | ⟨g, c', h1, h2, h3, h4, h5⟩
  · injection h1 with e1 e2 e3; omega
  · injection h1 with e1 e2 e3; omega
theorem lt_pw {x k : Nat} (j : Nat) (h : x < pw k) (hk : k ≤ j) : x < pw j := Nat.lt_of_lt_of_le h (pw_le hk)
theorem shl_lit (a : Option Addr) (n c x : Nat) (w : World) (hx : IsNat w (.slice a n c) x) (hn : n ≤ 1000) :
    Calls Try.prog 25 #[.agg #[.slice a n c], .int .i64 64] w fun e w' => ∃ s', e = .returned (.agg #[s']) ∧ IsNat w' s' (x * 2 ^ 64) ∧ Below w.heap.size w w' := refShl_any a n c x 64 w hx hn (by omega)

set_option maxHeartbeats 1000000 in
theorem pair_any (v : Nat) (w : World) (hv : W2 v) :
    Calls Try.prog 26 #[.int .u64 (hi v), .int .u64 (lo v)] w fun e w' => ∃ s', e = .returned (.agg #[s']) ∧ IsNat w' s' v ∧ Below w.heap.size w w' := by
  have h1 := hi_1 hv
  have HV : Hid ((hi v).toNat * 2 ^ 64 + (lo v).toNat = v) := by unfold Hid hi lo; rw [Int.toNat_natCast, Int.toNat_natCast, show (2 : Nat) ^ 64 = 18446744073709551616 from rfl]; omega
  have HH := hide h1
  clear h1
  go_enter Try.func26, Try.ntmps26
  go_wp2_with fail
  refine (refOf_any (hi v) _ (hi_0 v) (unhide HH)).mono ?_
  rintro e w1 ⟨s1, rfl, hN1, hb1⟩
  obtain ⟨a1, n1, c1, rfl⟩ := hN1.slice
  have H1 := hide hN1
  clear hN1
  go_wp2_with fail
  refine (shl_lit _ _ _ _ _ (unhide H1) (Nat.le_trans ((unhide H1).short (k := 2) (by rw [pw_2]; have := unhide HH; have := hi_0 v; omega)) (by omega))).mono ?_
  rintro e w2 ⟨s2, rfl, hN2, hb2⟩
  obtain ⟨a2, n2, c2, rfl⟩ := hN2.slice
  have H2 := hide hN2
  clear hN2
  go_wp2_with fail
  refine (refOf_any (lo v) _ (lo_0 v) (lo_1 v)).mono ?_
  rintro e w3 ⟨s3, rfl, hN3, hb3⟩
  obtain ⟨a3, n3, c3, rfl⟩ := hN3.slice
  have H3 := hide hN3
  have H2' := hide ((unhide H2).below hb3)
  clear hN3
  go_wp2_with fail
  refine (refAdd_any _ _ _ _ _ _ _ _ _ (unhide H2') (unhide H3) (Nat.le_trans ((unhide H2').short (k := 4) (by rw [pw_4]; have := unhide HV; unfold W2 at hv; omega)) (by omega)) (Nat.le_trans ((unhide H3).short (k := 2) (by rw [pw_2]; have := lo_1 v; have := lo_0 v; omega)) (by omega))).mono ?_
  rintro e w4 ⟨s4, rfl, hN4, hb4⟩
  obtain ⟨a4, n4, c4, rfl⟩ := hN4.slice
  rw [unhide HV] at hN4
  have H4 := hide hN4
  have HB := hide (bthen (bthen (bthen (bthen (below1 w (.cells #[.slice none 0 0] 39)) hb1) hb2) hb3) hb4)
  have hB := bthen (bthen (bthen hb1 hb2) hb3) hb4
  have hc0 : w4.cell? ⟨w.heap.size, 0, none⟩ = some (.slice none 0 0) := by rw [hB.cell (by simp)]; simp [go_sem]
  have hf0 : w4.frozen? ⟨w.heap.size, 0, none⟩ = false := by rw [hB.frozen (by simp)]; simp [go_sem]
  clear hN4 hB
  go_wp2
  refine bodyPost_ret (v := .agg #[.slice a4 n4 c4]) (by simp [results, Try.results26, go_sem, hc0]) rfl ⟨_, rfl, (unhide H4).store hc0 _, ?_⟩
  exact (unhide HB).setCell (by simp) _

theorem keep3 {W w' : World} {b1 b2 : Nat} {x0 x1 y0 s : Value} {x : Nat} (hb : Below W.heap.size W w') (hz : b2 < W.heap.size) (h12 : b1 < b2)
    (h : W.cell? ⟨b1, 0, none⟩ = some x0 ∧ W.cell? ⟨b1, 1, none⟩ = some x1 ∧ W.cell? ⟨b2, 0, none⟩ = some y0 ∧ IsNat W s x) :
    w'.cell? ⟨b1, 0, none⟩ = some x0 ∧ w'.cell? ⟨b1, 1, none⟩ = some x1 ∧ w'.cell? ⟨b2, 0, none⟩ = some y0 ∧ IsNat w' s x := by
  obtain ⟨h1, h2, h3, h4⟩ := h
  have a := keep2 hb (Nat.lt_trans h12 hz) ⟨h1, h2⟩
  exact ⟨a.1, a.2, by rw [hb.cell (p := ⟨b2, 0, none⟩) hz]; exact h3, h4.below hb⟩

end Go.Proofs.Ytiklaalcmfkddaa.W
