/- WRefH, WRefK. -/
import Derived.Test.YtpbgpdmffejdgaaGreatDoorS15
import Derived.Test.YtpbgpdmffejdgaaGreatDoorS19
import Derived.Laws.MakeOwn
import Derived.Laws.OwnMore
namespace Go.Proofs.YtpbgpdmffejdgaaGreatDoor.W
open Go.RowKit

theorem IsNat.short {w : World} {a : Option Addr} {n c x k : Nat} (h : IsNat w (.slice a n c) x) (hx : x < pw k) : n ≤ k := by
  obtain ⟨D, hH, hs, hC, rfl⟩ := h
  have := canon_len hC hx
  rcases hH with ⟨h1, h2⟩ | ⟨g, c', h1, h2, h3, h4, h5⟩
  · injection h1 with e1 e2 e3; omega
  · injection h1 with e1 e2 e3; omega
end Go.Proofs.YtpbgpdmffejdgaaGreatDoor.W
namespace Go.Proofs.YtpbgpdmffejdgaaGreatDoor.W
open Go.RowKit

/-- A made row of digits, of this length, in a block of its own. -/
structure Buf (g L : Nat) (D : List Nat) (w : World) : Prop where
  len : D.length = L
  size : g < w.heap.size
  cell : ∀ j, j < L → w.cell? ⟨g, j, none⟩ = some (.int .u64 ((dg D j : Nat) : Int))
  thawed : ∀ j, w.frozen? ⟨g, j, none⟩ = false

theorem Buf.store {g L j e : Nat} {D : List Nat} {w : World} (h : Buf g L D w) (hj : j < L) : Buf g L (D.set j e) (w.setCell ⟨g, j, none⟩ (.int .u64 ((e : Nat) : Int))) := by
  have hl := h.len
  refine ⟨by simpa using h.len, by simpa using h.size, fun i hi => ?_, fun i => by rw [World.frozen?_setCell]; exact h.thawed i⟩
  rw [dg_set (by omega)]
  by_cases hji : j = i
  · subst hji
    rw [if_pos rfl]
    exact World.cell?_setCell_same _ _ _ (h.cell j hj)
  · rw [if_neg hji, World.cell?_setCell_other _ _ _ _ (by intro he; injection he with he1 he2; exact hji he2)]
    exact h.cell i hi
theorem Buf.holds {g L : Nat} {D : List Nat} {w : World} (h : Buf g L D w) (hL : L ≤ 1000000) : Holds w (.slice (some ⟨g, 0, none⟩) L L) D := by
  obtain ⟨rfl, h2, h3, _⟩ := h
  exact Or.inr ⟨g, _, rfl, h2, Nat.le_refl _, hL, h3⟩
theorem made_cells (L i : Nat) (h : i < L) : (madeCells #[.int .u64 0] L)[i]? = some (.int .u64 0) := by
  have := toList_madeCells_one (.int .u64 0) L
  rw [← Array.getElem?_toList, this]
  simp [h]
theorem Buf.made (w : World) (L : Nat) : Buf w.heap.size L (List.replicate L 0) (w.alloc (.cells (madeCells #[.int .u64 0] L) 28)) := by
  refine ⟨by simp, by simp, fun j hj => ?_, fun j => by simp [go_sem]⟩
  rw [World.cell?_alloc_new, made_cells L j hj]
  simp [dg, hj]
theorem bytes22 : ((Tryz.prog.info? 28).getD default).bytes = 8 := by kernel_rfl
theorem size22 : ((Tryz.prog.info? 28).getD default).size = 1 := by kernel_rfl
set_option maxRecDepth 100000 in
theorem make_run (L : Nat) (hL : L ≤ 3000) (w : World) : (Instr.makeSlice 39 (.int .i64 (L : Int)) (.int .i64 (L : Int))).run Tryz.prog w = .ok (.slice (some ⟨w.heap.size, 0, none⟩) L L) (w.alloc (.cells (madeCells #[.int .u64 0] L) 28)) := by
  have h := run_make (P := Tryz.prog) w 39 28 _ (.int .u64 0) Tryz.underlying39 i22 rfl .i64 .i64 (L : Int) (L : Int) (by omega) (Int.le_refl _) (by rw [bytes22]; omega) (by omega)
  rw [size22, Nat.mul_one] at h
  exact h

theorem Buf.storeMod {g L j e : Nat} {D : List Nat} {w : World} (h : Buf g L D w) (hj : j < L) : Buf g L (D.set j (e % 4294967296)) (w.setCell ⟨g, j, none⟩ (.int .u64 ((e : Int) % 4294967296))) := h.store (e := e % 4294967296) hj
theorem Buf.drewN {g L : Nat} {D : List Nat} {w : World} (h : Buf g L D w) (k : Nat) : Buf g L D (w.drewN k) := by
  have hb : Below w.heap.size w (w.drewN k) := below_drewN (Below.refl _ _) k
  exact ⟨h.len, Nat.lt_of_lt_of_le h.size hb.size, fun j hj => by rw [hb.cell (p := ⟨g, j, none⟩) h.size]; exact h.cell j hj, fun j => by rw [hb.frozen (p := ⟨g, j, none⟩) h.size]; exact h.thawed j⟩

set_option maxRecDepth 100000 in
set_option maxHeartbeats 2000000 in
theorem refMul_any (a b : Option Addr) (n c m d x y : Nat) (w : World) (hx : IsNat w (.slice a n c) x) (hy : IsNat w (.slice b m d) y) (hn : n ≤ 1000) (hm : m ≤ 1000) :
    Calls Tryz.prog 20 #[.agg #[.slice a n c], .agg #[.slice b m d]] w fun e w' => ∃ s', e = .returned (.agg #[s']) ∧ IsNat w' s' (x * y) ∧ Below w.heap.size w w' := by
  have LX := hide hx.len.1; have LY := hide hy.len.1
  have HX := hide hx; have HY := hide hy
  clear hx hy
  obtain ⟨L, hL⟩ : ∃ L, L = n + m + 1 := ⟨_, rfl⟩
  have hmk := make_run L (by omega)
  rw [show ((L : Nat) : Int) = (n : Int) + (m : Int) + 1 by omega] at hmk
  have HL := hide hL
  clear hL
  go_enter Tryz.func20, Tryz.ntmps20
  go_wp2_with fail
  clear hmk
  go_loopw [6] (fun v6 wr => ∃ (i : Nat) (D : List Nat), i ≤ n ∧ v6 = .int .i64 i ∧ Small D ∧ val D = x % pw i * y ∧ Buf (w.heap.size + 1 + 1 + 1) L D wr ∧
      Below (w.heap.size + 3) (((w.alloc (.cells #[.slice a n c] 41)).alloc (.cells #[.slice b m d] 41)).alloc (.cells #[.slice none 0 0] 41)) wr) (fun i _ => n - (intOf i).toNat)
  case atStart =>
    have hB := Buf.made (((w.alloc (.cells #[.slice a n c] 41)).alloc (.cells #[.slice b m d] 41)).alloc (.cells #[.slice none 0 0] 41)) L
    simp only [World.size_alloc] at hB
    refine ⟨0, List.replicate L 0, by omega, rfl, fun d hd => ?_, by rw [val_zeros, pw_0, Nat.mod_one, Nat.zero_mul], hB, (Below.refl _ _).alloc (by simp) _⟩
    rw [List.eq_of_mem_replicate hd]; omega
  case round =>
    obtain ⟨i, D, hi, rfl, hS, hV, hbuf, hB⟩ := hrel
    have q0 : wr.cell? ⟨w.heap.size, 0, none⟩ = some (.slice a n c) := by rw [hB.cell (by simp)]; simp [go_sem]
    have q1 : wr.cell? ⟨w.heap.size + 1, 0, none⟩ = some (.slice b m d) := by rw [hB.cell (by simp)]; simp [go_sem]
    by_cases hc : i < n
    · have HM := hide (mulTo_start hS hV)
      have HBuf := hide hbuf; have HB := hide hB
      have hci : (i : Int) < (n : Int) := by omega
      clear hS hV hbuf hB
      go_wp2_with fail
      go_loopw [7, 8] (fun v7 v8 wr => ∃ (k cy : Nat) (D : List Nat), k ≤ m + 1 ∧ v7 = .int .u64 cy ∧ v8 = .int .i64 k ∧ MulTo x y i k cy D ∧ Buf (w.heap.size + 1 + 1 + 1) L D wr ∧
          Below (w.heap.size + 3) (((w.alloc (.cells #[.slice a n c] 41)).alloc (.cells #[.slice b m d] 41)).alloc (.cells #[.slice none 0 0] 41)) wr) (fun _ k _ => m + 2 - (intOf k).toNat)
      case atStart => exact ⟨0, 0, D, by omega, rfl, rfl, unhide HM, unhide HBuf, unhide HB⟩
      case round =>
        clear HM HBuf HB q0 q1 D
        obtain ⟨k, cy, D, hk, rfl, rfl, hM, hbuf, hB⟩ := hrel
        have q0 : wr.cell? ⟨w.heap.size, 0, none⟩ = some (.slice a n c) := by rw [hB.cell (by simp)]; simp [go_sem]
        have q1 : wr.cell? ⟨w.heap.size + 1, 0, none⟩ = some (.slice b m d) := by rw [hB.cell (by simp)]; simp [go_sem]
        have hBw : Below w.heap.size w wr := (balloc (below2 _ _ _) _).trans (hB.mono (by omega))
        have HXr := hide ((unhide HX).below hBw); have HYr := hide ((unhide HY).below hBw)
        have HM := hide hM; have HBuf := hide hbuf; have HB := hide hB
        clear hM hbuf hB hBw
        by_cases hgo : k < m ∨ 0 < cy
        · have hkm : k ≤ m := by
            rcases hgo with h | h
            · omega
            · exact mulTo_in (unhide HM) h (unhide LY)
          have hik : i + k < L := by have := unhide HL; omega
          have hdc := (unhide HBuf).cell (i + k) hik
          have ES := hide (mul_wraps (dg D (i + k)) (dgt x i) (dgt y k) cy (dg_lt (unhide HM).1 _) (dgt_lt _ _) (dgt_lt _ _) (unhide HM).2.1)
          have HSM := hide (mul_fits (dg_lt (unhide HM).1 (i + k)) (dgt_lt x i) (dgt_lt y k) (unhide HM).2.1)
          have HS := hide (mulTo_step (unhide HM) (by rw [(unhide HBuf).len]; exact hik))
          obtain ⟨g, rfl, hcell⟩ := (unhide HXr).digit hc
          have hii : (0 : Int) ≤ (i : Int) + (k : Int) := by omega
          have hij : (i : Int) + (k : Int) < (L : Int) := by omega
          have hgo' : k < m ∨ (¬ k < m ∧ 0 < cy) := by omega
          clear hgo
          rcases hgo' with hgo | ⟨hgo, hgo2⟩
          all_goals
            go_wp2_with fail
            go_quiet ((go_at_call 56; exact Calls.quiet_of_same (at_n _ y k _ ((unhide HYr).drewN _) (by omega))))
            have HBuf := hide ((unhide HBuf).drewN nq); have HB := hide (below_drewN (unhide HB) nq)
            generalize wr.drewN nq = wq at *
            clear q0 q1 hcell hdc
            have hdc := (unhide HBuf).cell (i + k) hik
            have hdf := (unhide HBuf).thawed (i + k)
            go_upto_region 10 with fail
            rw [unhide ES]
            generalize dg D (i + k) + dgt x i * dgt y k + cy = sm at *
            go_wp2_with fail
            have e2 : IntKind.u64.wrap ((sm : Int) / 4294967296) = ((sm / 4294967296 : Nat) : Int) := by have := unhide HSM; rw [IntKind.wrap_u64]; omega
            exact ⟨⟨k + 1, sm / 4294967296, D.set (i + k) (sm % 4294967296), by omega, by rw [e2], by go_num, unhide HS, (unhide HBuf).storeMod hik, (unhide HB).setCell (by simp) _⟩, by simp [intOf]; omega⟩
        · have hk1 : ¬ k < m := by omega
          have hcy : cy = 0 := by omega
          subst hcy
          have HV := hide (mulTo_end (unhide HM) (show m ≤ k by omega) (unhide LY))
          clear hgo
          go_wp2_with fail
          exact ⟨⟨i + 1, D, by omega, by go_num, (unhide HM).1, unhide HV, unhide HBuf, unhide HB⟩, by simp [intOf]; omega⟩
    · have hin : i = n := by omega
      have HV : Hid (val D = x * y) := by unfold Hid; rw [hV, hin, Nat.mod_eq_of_lt (unhide LX)]
      have z0 : wr.cell? ⟨w.heap.size + 1 + 1, 0, none⟩ = some (.slice none 0 0) := by rw [hB.cell (by simp)]; simp [go_sem]
      have z1 : wr.frozen? ⟨w.heap.size + 1 + 1, 0, none⟩ = false := by rw [hB.frozen (by simp)]; simp [go_sem]
      have hz : w.heap.size + 1 + 1 < wr.heap.size := by have := hB.size; simp at this; omega
      have hBw : Below w.heap.size w wr := (balloc (below2 _ _ _) _).trans (hB.mono (by omega))
      have HH := hide (hbuf.holds (by have := unhide HL; omega)); have HSm := hide hS; have HBw := hide hBw
      clear hV hbuf hB hBw hS hin
      go_wp2_with fail
      refine (trim_any _ D _ (unhide HH) (unhide HSm)).mono ?_
      rintro e w1 ⟨s', rfl, hN, hb⟩
      obtain ⟨a', n', c', rfl⟩ := hN.slice
      have hc0 : w1.cell? ⟨w.heap.size + 1 + 1, 0, none⟩ = some (.slice none 0 0) := by rw [hb.cell (by simpa using hz)]; exact z0
      have hf0 : w1.frozen? ⟨w.heap.size + 1 + 1, 0, none⟩ = false := by rw [hb.frozen (by simpa using hz)]; exact z1
      rw [unhide HV] at hN
      have HN := hide hN
      clear hN
      go_wp2
      refine bodyPost_ret (v := .agg #[.slice a' n' c']) (by simp [results, Tryz.results20, go_sem, hc0]) rfl ⟨_, rfl, (unhide HN).store hc0 _, ?_⟩
      exact (bthen (unhide HBw) hb).setCell (by simp; omega) _

end Go.Proofs.YtpbgpdmffejdgaaGreatDoor.W
