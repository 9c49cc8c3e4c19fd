/- WRefF. -/
import Derived.Test.YtpbgpdmffejdgaaGreatDoorS13
namespace Go.Proofs.YtpbgpdmffejdgaaGreatDoor.W
open Go.RowKit

/-- A difference behind so many digits. -/
def SubTo (x y : Nat) (D : List Nat) (br : Nat) : Prop := Small D ∧ br ≤ 1 ∧ x % pw D.length + br * pw D.length = val D + y % pw D.length

theorem subTo_nil (x y : Nat) : SubTo x y [] 0 := by
  refine ⟨?_, by omega, ?_⟩
  · intro d hd; simp at hd
  · simp only [val, List.length_nil, pw_0, Nat.mod_one]
theorem subTo_step {x y br : Nat} {D : List Nat} (h : SubTo x y D br) : SubTo x y (D ++ [(dgt x D.length + 4294967296 - dgt y D.length - br) % 4294967296]) (1 - (dgt x D.length + 4294967296 - dgt y D.length - br) / 4294967296) := by
  obtain ⟨h1, h2, h3⟩ := h
  have dx := dgt_lt x D.length
  have dy := dgt_lt y D.length
  refine ⟨small_snoc h1 (Nat.mod_lt _ (by omega)), by omega, ?_⟩
  rw [val_snoc, List.length_append, List.length_singleton, mod_pw_succ x, mod_pw_succ y, pw_succ]
  generalize dgt x D.length = p at *
  generalize dgt y D.length = q at *
  generalize pw D.length = P at *
  have hs : ∃ s, p + 4294967296 - q - br = s := ⟨_, rfl⟩
  obtain ⟨s, hs⟩ := hs
  rw [hs]
  have hs2 : s + q + br = p + 4294967296 := by omega
  have e := Nat.div_add_mod s 4294967296
  have hu : s / 4294967296 ≤ 1 := by omega
  generalize hu' : s / 4294967296 = u at *
  generalize s % 4294967296 = v at *
  have e2 : v + 4294967296 * u + q + br = p + 4294967296 := by omega
  have e3 : P * v + P * (4294967296 * u) + P * q + P * br = P * p + P * 4294967296 := by
    rw [← Nat.mul_add, ← Nat.mul_add, ← Nat.mul_add, ← Nat.mul_add, e2]
  rw [Nat.mul_comm P br] at e3
  rw [Nat.mul_comm p P, Nat.mul_comm q P]
  have hcase : u = 0 ∨ u = 1 := by omega
  rcases hcase with rfl | rfl
  · simp at e3 ⊢
    omega
  · simp at e3 ⊢
    omega
theorem subTo_end {x y br : Nat} {D : List Nat} (h : SubTo x y D br) (hx : x < pw D.length) (hy : y ≤ x) : val D = x - y := by
  obtain ⟨h1, h2, h3⟩ := h
  have hv := val_lt h1
  rw [Nat.mod_eq_of_lt hx, Nat.mod_eq_of_lt (by omega)] at h3
  have hb : br = 0 ∨ br = 1 := by omega
  rcases hb with rfl | rfl
  · omega
  · omega
theorem diff_wrap (p q r : Nat) (hp : p < 4294967296) (hq : q < 4294967296) (hr : r ≤ 1) :
    IntKind.u64.wrap (IntKind.u64.wrap (IntKind.u64.wrap ((p : Int) + 4294967296) - (q : Int)) - (r : Int)) = ((p + 4294967296 - q - r : Nat) : Int) := by
  rw [IntKind.wrap_u64, IntKind.wrap_u64, IntKind.wrap_u64]; omega

theorem IsNat.digit {w : World} {a : Option Addr} {n c x k : Nat} (h : IsNat w (.slice a n c) x) (hk : k < n) : ∃ g, a = some ⟨g, 0, none⟩ ∧ w.cell? ⟨g, k, none⟩ = some (.int .u64 ((dgt x k : Nat) : Int)) := by
  obtain ⟨D, hH, hs, hC, rfl⟩ := h
  rcases hH with ⟨h1, h2⟩ | ⟨g, c', h1, h2, h3, h4, h5⟩
  · injection h1 with e1 e2 e3; omega
  · injection h1 with e1 e2 e3
    refine ⟨g, e1, ?_⟩
    have := h5 k (by omega)
    rw [at_val D k hs] at this
    exact this

set_option maxRecDepth 100000 in
set_option maxHeartbeats 2000000 in
theorem refSub_any (a b : Option Addr) (n c m d x y : Nat) (w : World) (hx : IsNat w (.slice a n c) x) (hy : IsNat w (.slice b m d) y) (hn : n ≤ 1000) (hle : y ≤ x) :
    Calls Tryz.prog 119 #[.agg #[.slice a n c], .agg #[.slice b m d]] w fun e w' => ∃ s', e = .returned (.agg #[s']) ∧ IsNat w' s' (x - y) ∧ Below w.heap.size w w' := by
  obtain ⟨lx, _⟩ := hx.len
  have HX := hide hx; have HY := hide hy
  have LX := hide lx; have HLE := hide hle
  clear hx hy lx hle
  go_enter Tryz.func119, Tryz.ntmps119
  go_wp2_with fail
  go_loopw [5, 6, 7] (fun v5 v6 v7 wr => ∃ (D : List Nat) (br : Nat), D.length ≤ n ∧ v6 = .int .u64 br ∧ v7 = .int .i64 D.length ∧ wr.ownsRow (w.heap.size + 3) 28 1 v5 D.length (vals D) ∧ SubTo x y D br ∧
      Below (w.heap.size + 3) (((w.alloc (.cells #[.slice a n c] 41)).alloc (.cells #[.slice b m d] 41)).alloc (.cells #[.slice none 0 0] 41)) wr) (fun _ _ i _ => n - (intOf i).toNat)
  case atStart => exact ⟨[], 0, by simp, rfl, rfl, World.ownsRow_nil _ _ _ _, subTo_nil x y, Below.refl _ _⟩
  case round =>
    obtain ⟨D, br, hD, rfl, rfl, hown, hA, hB⟩ := hrel
    have q0 : wr.cell? ⟨w.heap.size, 0, none⟩ = some (.slice a n c) := by rw [hB.cell (by simp)]; simp [go_sem]
    have q1 : wr.cell? ⟨w.heap.size + 1, 0, none⟩ = some (.slice b m d) := by rw [hB.cell (by simp)]; simp [go_sem]
    have hBw : Below w.heap.size w wr := (balloc (below2 _ _ _) _).trans (hB.mono (by omega))
    have HXr := hide ((unhide HX).below hBw); have HYr := hide ((unhide HY).below hBw)
    have HO := hide hown; have HA := hide hA; have HB := hide hB; have HBw := hide hBw
    clear hown hA hB hBw
    by_cases hc : D.length < n
    · have ES := hide (diff_wrap (dgt x D.length) (dgt y D.length) br (dgt_lt _ _) (dgt_lt _ _) (unhide HA).2.1)
      have HL1 := hide (show D.length + 1 ≤ maxLen by unfold maxLen; omega)
      have HL2 := hide (show (D.length + 1) * 8 ≤ 140737488355328 by omega)
      have HS := hide (subTo_step (unhide HA))
      have HSM := hide (show dgt x D.length + 4294967296 - dgt y D.length - br < 8589934592 by have := dgt_lt x D.length; omega)
      obtain ⟨g, rfl, hcell⟩ := (unhide HXr).digit hc
      have hci : (D.length : Int) < (n : Int) := by omega
      go_wp2_with fail
      go_quiet ((go_at_call 56; exact Calls.quiet_of_same (at_n _ y D.length _ ((unhide HYr).drewN _) (by omega))))
      have HO := hide ((unhide HO).below' nq); have HB := hide (below_drewN (unhide HB) nq); have HBw := hide (below_drewN (unhide HBw) nq)
      have HL3 := hide (show w.heap.size + 3 ≤ (wr.drewN nq).heap.size by have := (unhide HB).size; simp at this ⊢; omega)
      generalize wr.drewN nq = wq at *
      go_upto_region 7 with fail
      rw [unhide ES]
      generalize dgt x D.length + 4294967296 - dgt y D.length - br = sm at *
      go_wp2_with (at_builtin; refine wpList_append_own _ rfl _ _ 39 rfl (w.heap.size + 3) 28 _ (.int .u64 0) 1 8 Tryz.underlying39 i22 rfl rfl rfl rfl (by decide) _ _ _ rfl ((unhide HO).alloc _) ⟨wq.heap.size, 0, none⟩ 1 1 [.int .u64 ((sm : Int) % 4294967296)] rfl rfl (cell_one_new _ _ _) (one_cell _) (unhide HL1) (unhide HL2) (base_le (unhide HL3) _) ?_; intro v' w1 hown' hgr _)
      have hr := append_round (unhide HO) (unhide HB) (unhide HL3) hown' hgr
      have e2 : IntKind.u64.wrap (1 - IntKind.u64.wrap ((sm : Int) / 4294967296)) = ((1 - sm / 4294967296 : Nat) : Int) := by have := unhide HSM; rw [IntKind.wrap_u64, IntKind.wrap_u64]; omega
      exact ⟨⟨D ++ [sm % 4294967296], 1 - sm / 4294967296, by simp; omega, by rw [e2], by simp, hr.1, unhide HS, hr.2⟩, by simp [intOf]; omega⟩
    · have hDn : D.length = n := by omega
      have hval := subTo_end (unhide HA) (by rw [hDn]; exact unhide LX) (unhide HLE)
      have hH := holds_of_owns (unhide HO) (by omega)
      have z0 : wr.cell? ⟨w.heap.size + 1 + 1, 0, none⟩ = some (.slice none 0 0) := by rw [(unhide HB).cell (by simp)]; simp [go_sem]
      have z1 : wr.frozen? ⟨w.heap.size + 1 + 1, 0, none⟩ = false := by rw [(unhide HB).frozen (by simp)]; simp [go_sem]
      have hz : w.heap.size + 1 + 1 < wr.heap.size := by have := (unhide HB).size; simp at this; omega
      have HH := hide hH; have HV := hide hval
      clear hH hval hDn
      go_wp2_with fail
      refine (trim_any _ D _ (unhide HH) (unhide HA).1).mono ?_
      rintro e w1 ⟨s', rfl, hN, hb⟩
      obtain ⟨a', n', c', rfl⟩ := hN.slice
      have hc0 : w1.cell? ⟨w.heap.size + 1 + 1, 0, none⟩ = some (.slice none 0 0) := by rw [hb.cell (by simpa using hz)]; exact z0
      have hf0 : w1.frozen? ⟨w.heap.size + 1 + 1, 0, none⟩ = false := by rw [hb.frozen (by simpa using hz)]; exact z1
      rw [unhide HV] at hN
      have HN := hide hN
      clear hN
      go_wp2
      refine bodyPost_ret (v := .agg #[.slice a' n' c']) (by simp [results, Tryz.results119, go_sem, hc0]) rfl ⟨_, rfl, (unhide HN).store hc0 _, ?_⟩
      exact (bthen (unhide HBw) hb).setCell (by simp; omega) _

end Go.Proofs.YtpbgpdmffejdgaaGreatDoor.W
