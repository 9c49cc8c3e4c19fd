/- WRefG. -/
import Derived.Test.YtpbgpdmffejdgaaGreatDoorS14
namespace Go.Proofs.YtpbgpdmffejdgaaGreatDoor.W
open Go.RowKit

/-- A product by a power of two behind so many digits: e noughts first, then i digits. -/
def ShlTo (x e u i : Nat) (D : List Nat) (cy : Nat) : Prop := Small D ∧ cy < u ∧ D.length = e + i ∧ val D + cy * pw D.length = x % pw i * u * pw e

theorem shlTo_0 {x e u : Nat} {D : List Nat} (hs : Small D) (hl : D.length = e) (hv : val D = 0) (hu : 0 < u) : ShlTo x e u 0 D 0 := by
  refine ⟨hs, hu, by omega, ?_⟩
  rw [hv, pw_0, Nat.mod_one, Nat.zero_mul, Nat.zero_mul, Nat.zero_mul]
theorem shlTo_step {x e u i cy : Nat} {D : List Nat} (h : ShlTo x e u i D cy) : ShlTo x e u (i + 1) (D ++ [(dgt x i * u + cy) % 4294967296]) ((dgt x i * u + cy) / 4294967296) := by
  obtain ⟨h1, h2, h3, h4⟩ := h
  have dx := dgt_lt x i
  have hlt : dgt x i * u + cy < 4294967296 * u := by
    have := Nat.mul_le_mul_right u (show dgt x i ≤ 4294967295 by omega)
    omega
  refine ⟨small_snoc h1 (Nat.mod_lt _ (by omega)), Nat.div_lt_of_lt_mul hlt, by simp; omega, ?_⟩
  rw [val_snoc, List.length_append, List.length_singleton, mod_pw_succ x, pw_succ]
  have he := Nat.div_add_mod (dgt x i * u + cy) 4294967296
  generalize (dgt x i * u + cy) / 4294967296 = q at *
  generalize (dgt x i * u + cy) % 4294967296 = r at *
  have e2 : pw D.length * r + q * (pw D.length * 4294967296) = (dgt x i * u + cy) * pw D.length := by
    rw [← he, Nat.add_mul, Nat.mul_comm r, Nat.mul_comm (pw D.length) 4294967296, ← Nat.mul_assoc, Nat.mul_comm q 4294967296]
    omega
  rw [Nat.add_assoc, e2, Nat.add_mul, Nat.add_mul, Nat.add_mul]
  rw [show dgt x i * pw i * u * pw e = dgt x i * u * pw D.length by rw [h3, pw_add]; rw [Nat.mul_right_comm (dgt x i) (pw i) u, Nat.mul_assoc (dgt x i * u), Nat.mul_comm (pw i)]]
  omega
theorem shlTo_end {x e u n cy : Nat} {D : List Nat} (h : ShlTo x e u n D cy) (hx : x < pw n) (hu : u ≤ 4294967296) : Small (D ++ [cy]) ∧ val (D ++ [cy]) = x * u * pw e := by
  obtain ⟨h1, h2, h3, h4⟩ := h
  refine ⟨small_snoc h1 (by omega), ?_⟩
  rw [Nat.mod_eq_of_lt hx] at h4
  rw [val_snoc, Nat.mul_comm (pw D.length)]
  exact h4
theorem shl_two (x k : Nat) : x * 2 ^ (k % 32) * pw (k / 32) = x * 2 ^ k := by
  rw [pw_two, Nat.mul_assoc, ← Nat.pow_add]
  congr 2
  omega
theorem small_zero {D : List Nat} (h : Small D) : Small (D ++ [0]) := small_snoc h (by omega)
theorem unit_step (j : Nat) (h : j < 32) : IntKind.u64.wrap (2 * ((2 ^ j : Nat) : Int)) = ((2 ^ (j + 1) : Nat) : Int) := by
  have h1 := Nat.pow_le_pow_right (show 0 < 2 by omega) (show j ≤ 31 by omega)
  rw [Nat.pow_succ, IntKind.wrap_u64]
  have h2 : (2 : Nat) ^ 31 = 2147483648 := rfl
  omega
theorem mul_wrap (p u r : Nat) (hp : p < 4294967296) (hu : u ≤ 2147483648) (hr : r < u) : IntKind.u64.wrap (IntKind.u64.wrap ((p : Int) * (u : Int)) + (r : Int)) = ((p * u + r : Nat) : Int) := by
  have h := Nat.mul_le_mul (show p ≤ 4294967295 by omega) hu
  rw [← Int.natCast_mul, IntKind.wrap_u64, IntKind.wrap_u64]
  generalize p * u = z at *
  omega
theorem unit_le (k : Nat) : 2 ^ (k % 32) ≤ 2147483648 := by
  have h1 := Nat.pow_le_pow_right (show 0 < 2 by omega) (show k % 32 ≤ 31 by omega)
  exact h1

theorem append_one {wq w1 W0 : World} {B : Nat} {v v' : Value} {D : List Nat} {d : Nat} {o : Obj} (hO : wq.ownsRow B 28 1 v D.length (vals D)) (hB : Below B W0 wq) (hL : B ≤ wq.heap.size)
    (hown : w1.ownsRow B 28 1 v' (D.length + 1) (vals D ++ [.int .u64 (d : Int)])) (hgr : (wq.alloc o).grownBy w1 v.ownBlock) :
    w1.ownsRow B 28 1 v' (D ++ [d]).length (vals (D ++ [d])) ∧ Below B W0 w1 := by
  constructor
  · rw [← vals_snoc, List.length_append, List.length_singleton]
    exact hown
  · exact (hB.alloc hL o).grown hgr (base_le hL o) (fun k hk => (hO.lt k hk).1)

set_option maxRecDepth 100000 in
set_option maxHeartbeats 2000000 in
theorem refShl_any (a : Option Addr) (n c x k : Nat) (w : World) (hx : IsNat w (.slice a n c) x) (hn : n ≤ 1000) (hk : k ≤ 10000) :
    Calls Tryz.prog 59 #[.agg #[.slice a n c], .int .i64 (k : Int)] w fun e w' => ∃ s', e = .returned (.agg #[s']) ∧ IsNat w' s' (x * 2 ^ k) ∧ Below w.heap.size w w' := by
  obtain ⟨lx, _⟩ := hx.len
  have HX := hide hx; have LX := hide lx
  clear hx lx
  go_enter Tryz.func59, Tryz.ntmps59
  go_wp2_with fail
  go_loopw [5, 6] (fun v5 v6 wr => ∃ D : List Nat, D.length ≤ k / 32 ∧ v6 = .int .i64 D.length ∧ wr.ownsRow (w.heap.size + 2) 28 1 v5 D.length (vals D) ∧ Small D ∧ val D = 0 ∧
      Below (w.heap.size + 2) ((w.alloc (.cells #[.slice a n c] 41)).alloc (.cells #[.slice none 0 0] 41)) wr) (fun _ i _ => k / 32 - (intOf i).toNat)
  case atStart => exact ⟨[], by simp, rfl, World.ownsRow_nil _ _ _ _, (fun d hd => by simp at hd), rfl, Below.refl _ _⟩
  case round =>
    obtain ⟨D, hD, rfl, hown, hS, hV, hB⟩ := hrel
    have HO := hide hown; have HS := hide hS; have HV := hide hV; have HB := hide hB
    have HL1 := hide (show D.length + 1 ≤ maxLen by unfold maxLen; omega)
    have HL2 := hide (show (D.length + 1) * 8 ≤ 140737488355328 by omega)
    have HL3 := hide (show w.heap.size + 2 ≤ wr.heap.size by have := (unhide HB).size; simp at this ⊢; omega)
    clear hown hS hV hB
    by_cases hc : D.length < k / 32
    · go_wp2_with (at_builtin; refine wpList_append_own _ rfl _ _ 39 rfl (w.heap.size + 2) 28 _ (.int .u64 0) 1 8 Tryz.underlying39 i22 rfl rfl rfl rfl (by decide) _ _ _ rfl ((unhide HO).alloc _) ⟨wr.heap.size, 0, none⟩ 1 1 [.int .u64 0] rfl rfl (cell_one_new _ _ _) (one_cell _) (unhide HL1) (unhide HL2) (base_le (unhide HL3) _) ?_; intro v' w1 hown' hgr _)
      have hr := append_round (sm := 0) (unhide HO) (unhide HB) (unhide HL3) hown' hgr
      exact ⟨⟨D ++ [0], by simp; omega, by simp, hr.1, small_zero (unhide HS), by rw [val_snoc, unhide HV]; simp, hr.2⟩, by simp [intOf]; omega⟩
    · have hDk : D.length = k / 32 := by omega
      have HDk := hide hDk
      clear hDk
      go_wp2_with fail
      go_loop [7, 8] (fun v7 v8 => ∃ j : Nat, j ≤ k % 32 ∧ v8 = .int .i64 j ∧ v7 = .int .u64 ((2 ^ j : Nat) : Int)) (fun _ i => k % 32 - (intOf i).toNat)
      case atStart => exact ⟨0, by omega, rfl, rfl⟩
      case round =>
        obtain ⟨j, hj, rfl, rfl⟩ := hrel
        by_cases hc2 : j < k % 32
        · have HU := hide (unit_step j (by omega))
          generalize 2 ^ j = uj at *
          go_wp2_with fail
          rw [unhide HU]
          exact ⟨⟨j + 1, by omega, by go_num, rfl⟩, by simp [intOf]; omega⟩
        · have hjk : j = k % 32 := by omega
          have HU := hide (unit_le k)
          have HUp := hide (Nat.two_pow_pos (k % 32))
          have HR := hide (shl_two x k)
          rw [hjk]
          clear hjk hc2 hj
          generalize 2 ^ (k % 32) = u at *
          go_wp2_with fail
          go_loopw [5, 9, 10] (fun v5 v9 v10 wr => ∃ (E : List Nat) (cy i : Nat), i ≤ n ∧ v9 = .int .u64 cy ∧ v10 = .int .i64 i ∧ wr.ownsRow (w.heap.size + 2) 28 1 v5 E.length (vals E) ∧ ShlTo x (k / 32) u i E cy ∧
              Below (w.heap.size + 2) ((w.alloc (.cells #[.slice a n c] 41)).alloc (.cells #[.slice none 0 0] 41)) wr) (fun _ _ i _ => n - (intOf i).toNat)
          case atStart => exact ⟨D, 0, 0, by omega, rfl, rfl, unhide HO, shlTo_0 (unhide HS) (unhide HDk) (unhide HV) (unhide HUp), unhide HB⟩
          case round =>
            clear HO HS HV HB HL1 HL2 HL3
            obtain ⟨E, cy, i, hi, rfl, rfl, hown, hA, hB⟩ := hrel
            have q0 : wr.cell? ⟨w.heap.size, 0, none⟩ = some (.slice a n c) := by rw [hB.cell (by simp)]; simp [go_sem]
            have hBw : Below w.heap.size w wr := (below2 _ _ _).trans (hB.mono (by omega))
            have HXr := hide ((unhide HX).below hBw)
            have hE : E.length ≤ 2000 := by have := hA.2.2.1; omega
            have HO := hide hown; have HA := hide hA; have HB := hide hB; have HBw := hide hBw
            have HL1 := hide (show E.length + 1 ≤ maxLen by unfold maxLen; omega)
            have HL2 := hide (show (E.length + 1) * 8 ≤ 140737488355328 by omega)
            have HL3 := hide (show w.heap.size + 2 ≤ wr.heap.size by have := (unhide HB).size; simp at this ⊢; omega)
            clear hown hA hB hBw
            by_cases hc3 : i < n
            · have ES := hide (mul_wrap (dgt x i) u cy (dgt_lt _ _) (unhide HU) (unhide HA).2.1)
              have HS := hide (shlTo_step (unhide HA))
              have HSM := hide (show dgt x i * u + cy < 18446744073709551616 by
                have h1 := Nat.mul_le_mul (show dgt x i ≤ 4294967295 by have := dgt_lt x i; omega) (unhide HU)
                have h2 := (unhide HA).2.1
                have h3 := unhide HU
                omega)
              obtain ⟨g, rfl, hcell⟩ := (unhide HXr).digit hc3
              have hci : (i : Int) < (n : Int) := by omega
              go_upto_region 16 with fail
              rw [unhide ES]
              generalize dgt x i * u + cy = sm at *
              go_wp2_with (at_builtin; refine wpList_append_own _ rfl _ _ 39 rfl (w.heap.size + 2) 28 _ (.int .u64 0) 1 8 Tryz.underlying39 i22 rfl rfl rfl rfl (by decide) _ _ _ rfl ((unhide HO).alloc _) ⟨wr.heap.size, 0, none⟩ 1 1 [.int .u64 ((sm : Int) % 4294967296)] rfl rfl (cell_one_new _ _ _) (one_cell _) (unhide HL1) (unhide HL2) (base_le (unhide HL3) _) ?_; intro v' w1 hown' hgr _)
              have hr := append_round (unhide HO) (unhide HB) (unhide HL3) hown' hgr
              have e2 : IntKind.u64.wrap ((sm : Int) / 4294967296) = ((sm / 4294967296 : Nat) : Int) := by have := unhide HSM; rw [IntKind.wrap_u64]; omega
              exact ⟨⟨E ++ [sm % 4294967296], sm / 4294967296, i + 1, by omega, by rw [e2], by go_num, hr.1, unhide HS, hr.2⟩, by simp [intOf]; omega⟩
            · have hin : i = n := by omega
              have hend := shlTo_end (n := n) (by rw [← hin]; exact unhide HA) (unhide LX) (by have := unhide HU; omega)
              rw [unhide HR] at hend
              have z0 : wr.cell? ⟨w.heap.size + 1, 0, none⟩ = some (.slice none 0 0) := by rw [(unhide HB).cell (by simp)]; simp [go_sem]
              have z1 : wr.frozen? ⟨w.heap.size + 1, 0, none⟩ = false := by rw [(unhide HB).frozen (by simp)]; simp [go_sem]
              have hz : w.heap.size + 1 < wr.heap.size := by have := (unhide HB).size; simp at this; omega
              have HE := hide hend
              clear hend hin
              go_wp2_with (at_builtin; refine wpList_append_own _ rfl _ _ 39 rfl (w.heap.size + 2) 28 _ (.int .u64 0) 1 8 Tryz.underlying39 i22 rfl rfl rfl rfl (by decide) _ _ _ rfl ((unhide HO).alloc _) ⟨wr.heap.size, 0, none⟩ 1 1 [.int .u64 (cy : Int)] rfl rfl (cell_one_new _ _ _) (one_cell _) (unhide HL1) (unhide HL2) (base_le (unhide HL3) _) ?_; intro v' w1 hown' hgr _)
              have hr := append_one (unhide HO) (unhide HB) (unhide HL3) hown' hgr
              have c0 : w1.cell? ⟨w.heap.size + 1, 0, none⟩ = some (.slice none 0 0) := by rw [hr.2.cell (by simp)]; simp [go_sem]
              have c1 : w1.frozen? ⟨w.heap.size + 1, 0, none⟩ = false := by rw [hr.2.frozen (by simp)]; simp [go_sem]
              have hz1 : w.heap.size + 1 < w1.heap.size := by have := hr.2.size; simp at this; omega
              have hBw1 : Below w.heap.size w w1 := (below2 _ _ _).trans (hr.2.mono (by omega))
              refine (trim_any _ (E ++ [cy]) _ (holds_of_owns hr.1 (by simp; omega)) (unhide HE).1).mono ?_
              rintro e w2 ⟨s', rfl, hN, hb⟩
              obtain ⟨a', n', c', rfl⟩ := hN.slice
              have hc0 : w2.cell? ⟨w.heap.size + 1, 0, none⟩ = some (.slice none 0 0) := by rw [hb.cell (by simpa using hz1)]; exact c0
              have hf0 : w2.frozen? ⟨w.heap.size + 1, 0, none⟩ = false := by rw [hb.frozen (by simpa using hz1)]; exact c1
              rw [(unhide HE).2] at hN
              have HN := hide hN
              have HB2 := hide (bthen hBw1 hb)
              clear hN hr hBw1 hown' hgr
              go_wp2
              refine bodyPost_ret (v := .agg #[.slice a' n' c']) (by simp [results, Tryz.results59, go_sem, hc0]) rfl ⟨_, rfl, (unhide HN).store hc0 _, ?_⟩
              exact (unhide HB2).setCell (by simp) _

end Go.Proofs.YtpbgpdmffejdgaaGreatDoor.W
