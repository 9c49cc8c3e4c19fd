/- WRefE. -/
import Derived.Test.YtpbgpdmffejdgaaGreatDoorS12
import Derived.Deep.Cut
namespace Go.Proofs.YtpbgpdmffejdgaaGreatDoor.W
open Go.RowKit

/-- The digits as values. -/
def vals (D : List Nat) : List Value := D.map fun d : Nat => Value.int .u64 (d : Int)
theorem vals_snoc (D : List Nat) (d : Nat) : vals D ++ [.int .u64 (d : Int)] = vals (D ++ [d]) := by simp [vals]
/-- An owned row of digits holds them. -/
theorem holds_of_owns {w : World} {base : Nat} {v : Value} {D : List Nat} (h : w.ownsRow base 28 1 v D.length (vals D)) (hcap : D.length ≤ 1000000) : Holds w v D := by
  obtain ⟨h1, h2⟩ := h
  rcases h2 with ⟨h2, h3⟩ | ⟨g, cap, cur, h2, h3, h4, h5, h6, h7, h8⟩
  · exact Or.inl ⟨h2, List.eq_nil_of_length_eq_zero h3⟩
  · refine Or.inr ⟨g, cap, h2, ?_, h5, hcap, fun i hi => ?_⟩
    · rw [Array.getElem?_eq_some_iff] at h4; exact h4.1
    · have := World.ownsRow.cellAt (w := w) (base := base) (e := 28) (size := 1) (g := g) (n := D.length) (cap := cap) (xs := vals D) ⟨h1, Or.inr ⟨g, cap, cur, rfl, h3, h4, h5, h6, h7, h8⟩⟩ i (by omega)
      rw [this]
      unfold vals dg
      rw [List.getElem?_map, List.getD_eq_getElem?_getD, List.getElem?_eq_getElem hi]
      rfl

theorem i22 : Tryz.prog.info? 28 = some ((Tryz.prog.info? 28).getD default) := by kernel_rfl
theorem _root_.Go.World.ownsRow.below' {w : World} {base : Nat} {e : TypeId} {size : Nat} {v : Value} {n : Nat} {xs : List Value} (h : w.ownsRow base e size v n xs) (k : Nat) : (w.drewN k).ownsRow base e size v n xs := h

theorem base_le {B : Nat} {w : World} (h : B ≤ w.heap.size) (o : Obj) : B ≤ (w.alloc o).heap.size := by simp; omega
theorem one_cell (x : Int) : ∀ u ∈ [Value.int .u64 x], u.oneCell' = true := by
  intro u hu
  simp at hu
  subst hu
  rfl

/-- A sum behind so many digits. -/
def AddTo (x y : Nat) (D : List Nat) (cy : Nat) : Prop := Small D ∧ cy ≤ 1 ∧ val D + cy * pw D.length = x % pw D.length + y % pw D.length

theorem sum_wrap (p q r : Nat) (hp : p < 4294967296) (hq : q < 4294967296) (hr : r ≤ 1) : IntKind.u64.wrap (IntKind.u64.wrap ((p : Int) + (q : Int)) + (r : Int)) = ((p + q + r : Nat) : Int) := by
  rw [IntKind.wrap_u64, IntKind.wrap_u64]; omega
theorem mod_pw_succ (x k : Nat) : x % pw (k + 1) = x % pw k + dgt x k * pw k := by
  unfold dgt
  rw [pw_succ, Nat.mod_mul, Nat.mul_comm (pw k)]
theorem addTo_nil (x y : Nat) : AddTo x y [] 0 := by
  refine ⟨?_, by omega, ?_⟩
  · intro d hd; simp at hd
  · simp only [val, List.length_nil, pw_0, Nat.mod_one]
theorem addTo_step {x y cy : Nat} {D : List Nat} (h : AddTo x y D cy) : AddTo x y (D ++ [(dgt x D.length + dgt y D.length + cy) % 4294967296]) ((dgt x D.length + dgt y D.length + cy) / 4294967296) := by
  obtain ⟨h1, h2, h3⟩ := h
  have dx := dgt_lt x D.length
  have dy := dgt_lt y D.length
  refine ⟨small_snoc h1 (Nat.mod_lt _ (by omega)), by omega, ?_⟩
  rw [val_snoc, List.length_append, List.length_singleton, mod_pw_succ x, mod_pw_succ y, pw_succ]
  generalize dgt x D.length = p at *
  generalize dgt y D.length = q at *
  generalize pw D.length = P at *
  have e := Nat.div_add_mod (p + q + cy) 4294967296
  generalize (p + q + cy) / 4294967296 = u at *
  generalize (p + q + cy) % 4294967296 = v at *
  have e2 : P * v + u * (P * 4294967296) = p * P + q * P + cy * P := by
    rw [← Nat.add_mul, ← Nat.add_mul, ← e]
    rw [Nat.add_mul, Nat.mul_comm P v, Nat.mul_comm P 4294967296, ← Nat.mul_assoc, Nat.mul_comm u 4294967296]
    omega
  omega
theorem addTo_end {x y M : Nat} {D : List Nat} (h : AddTo x y D 0) (hM : M ≤ D.length) (hx : x < pw M) (hy : y < pw M) : val D = x + y := by
  have hp := pw_le hM
  have h3 := h.2.2
  rw [Nat.zero_mul, Nat.mod_eq_of_lt (by omega), Nat.mod_eq_of_lt (by omega)] at h3
  omega
theorem addTo_last {x y M cy : Nat} {D : List Nat} (h : AddTo x y D cy) (hM : M < D.length) (hx : x < pw M) (hy : y < pw M) : cy = 0 := by
  have hp := pw_le (show M + 1 ≤ D.length by omega)
  rw [pw_succ] at hp
  have h3 := h.2.2
  have h2 := h.2.1
  rw [Nat.mod_eq_of_lt (by omega), Nat.mod_eq_of_lt (by omega)] at h3
  refine Decidable.byContradiction fun hn => ?_
  have : cy = 1 := by omega
  subst this
  omega

/-- A digit more in an owned row. -/
theorem append_round {wq w1 W0 : World} {B : Nat} {v v' : Value} {D : List Nat} {sm : Nat} {o : Obj} (hO : wq.ownsRow B 28 1 v D.length (vals D)) (hB : Below B W0 wq) (hL : B ≤ wq.heap.size)
    (hown : w1.ownsRow B 28 1 v' (D.length + 1) (vals D ++ [.int .u64 ((sm : Int) % 4294967296)])) (hgr : (wq.alloc o).grownBy w1 v.ownBlock) :
    w1.ownsRow B 28 1 v' (D ++ [sm % 4294967296]).length (vals (D ++ [sm % 4294967296])) ∧ Below B W0 w1 := by
  constructor
  · rw [← vals_snoc, List.length_append, List.length_singleton]
    rw [Int.natCast_emod]
    exact hown
  · exact (hB.alloc hL o).grown hgr (base_le hL o) (fun k hk => (hO.lt k hk).1)

set_option maxRecDepth 100000 in
set_option maxHeartbeats 2000000 in
theorem refAdd_any (a b : Option Addr) (n c m d x y : Nat) (w : World) (hx : IsNat w (.slice a n c) x) (hy : IsNat w (.slice b m d) y) (hn : n ≤ 1000) (hm : m ≤ 1000) :
    Calls Tryz.prog 118 #[.agg #[.slice a n c], .agg #[.slice b m d]] w fun e w' => ∃ s', e = .returned (.agg #[s']) ∧ IsNat w' s' (x + y) ∧ Below w.heap.size w w' := by
  obtain ⟨lx, _⟩ := hx.len
  obtain ⟨ly, _⟩ := hy.len
  obtain ⟨M, hM1, hM2, hM3⟩ : ∃ M, n ≤ M ∧ m ≤ M ∧ (M = n ∨ M = m) := by
    rcases Nat.le_total n m with h | h
    · exact ⟨m, h, Nat.le_refl _, Or.inr rfl⟩
    · exact ⟨n, Nat.le_refl _, h, Or.inl rfl⟩
  have HX := hide hx; have HY := hide hy
  have LX := hide (Nat.lt_of_lt_of_le lx (pw_le hM1)); have LY := hide (Nat.lt_of_lt_of_le ly (pw_le hM2))
  clear hx hy lx ly
  go_enter Tryz.func118, Tryz.ntmps118
  go_wp2_with fail
  go_loopw [5, 6, 7] (fun v5 v6 v7 wr => ∃ (D : List Nat) (cy : Nat), D.length ≤ M + 1 ∧ v6 = .int .u64 cy ∧ v7 = .int .i64 D.length ∧ wr.ownsRow (w.heap.size + 3) 28 1 v5 D.length (vals D) ∧ AddTo x y D cy ∧
      Below (w.heap.size + 3) (((w.alloc (.cells #[.slice a n c] 41)).alloc (.cells #[.slice b m d] 41)).alloc (.cells #[.slice none 0 0] 41)) wr) (fun _ _ i _ => M + 1 - (intOf i).toNat)
  case atStart => exact ⟨[], 0, by simp, rfl, rfl, World.ownsRow_nil _ _ _ _, addTo_nil x y, Below.refl _ _⟩
  case round =>
    obtain ⟨D, cy, hD, rfl, rfl, hown, hA, hB⟩ := hrel
    have q0 : wr.cell? ⟨w.heap.size, 0, none⟩ = some (.slice a n c) := by rw [hB.cell (by simp)]; simp [go_sem]
    have q1 : wr.cell? ⟨w.heap.size + 1, 0, none⟩ = some (.slice b m d) := by rw [hB.cell (by simp)]; simp [go_sem]
    have hBw : Below w.heap.size w wr := (balloc (below2 _ _ _) _).trans (hB.mono (by omega))
    have HXr := hide ((unhide HX).below hBw); have HYr := hide ((unhide HY).below hBw)
    have HO := hide hown; have HA := hide hA; have HB := hide hB; have HBw := hide hBw
    clear hown hA hB hBw
    by_cases hc : D.length < M ∨ 0 < cy
    · have es := sum_wrap (dgt x D.length) (dgt y D.length) cy (dgt_lt _ _) (dgt_lt _ _) (unhide HA).2.1
      have ES := hide es
      have HL1 := hide (show D.length + 1 ≤ maxLen by unfold maxLen; omega)
      have HL2 := hide (show (D.length + 1) * 8 ≤ 140737488355328 by omega)
      have HS := hide (addTo_step (unhide HA))
      have HSM := hide (show dgt x D.length + dgt y D.length + cy < 18446744073709551616 by have := dgt_lt x D.length; have := dgt_lt y D.length; have := (unhide HA).2.1; omega)
      have hDM : D.length ≤ M := Decidable.byContradiction fun h => by
        have := addTo_last (unhide HA) (show M < D.length by omega) (unhide LX) (unhide LY)
        omega
      clear es
      go_wp2_with fail
      all_goals
        go_quiet ((first | (go_at_call_of 56 (Value.slice a n c); exact Calls.quiet_of_same (at_n _ x D.length _ ((unhide HXr).drewN _) (by omega))) | (go_at_call_of 56 (Value.slice b m d); exact Calls.quiet_of_same (at_n _ y D.length _ ((unhide HYr).drewN _) (by omega)))))
        have HO := hide ((unhide HO).below' nq); have HB := hide (below_drewN (unhide HB) nq); have HBw := hide (below_drewN (unhide HBw) nq)
        have HL3 := hide (show w.heap.size + 3 ≤ (wr.drewN nq).heap.size by have := (unhide HB).size; simp at this ⊢; omega)
        generalize wr.drewN nq = wq at *
        go_upto_region 7 with fail
        rw [unhide ES]
        generalize dgt x D.length + dgt y D.length + cy = sm at *
        go_wp2_with (at_builtin; refine wpList_append_own _ rfl _ _ 39 rfl (w.heap.size + 3) 28 _ (.int .u64 0) 1 8 Tryz.underlying39 i22 rfl rfl rfl rfl (by decide) _ _ _ rfl ((unhide HO).alloc _) ⟨wq.heap.size, 0, none⟩ 1 1 [.int .u64 ((sm : Int) % 4294967296)] rfl rfl (cell_one_new _ _ _) (one_cell _) (unhide HL1) (unhide HL2) (base_le (unhide HL3) _) ?_; intro v' w1 hown' hgr _)
        have hr := append_round (unhide HO) (unhide HB) (unhide HL3) hown' hgr
        have e2 : IntKind.u64.wrap ((sm : Int) / 4294967296) = ((sm / 4294967296 : Nat) : Int) := by have := unhide HSM; rw [IntKind.wrap_u64]; omega
        exact ⟨⟨D ++ [sm % 4294967296], sm / 4294967296, by simp; omega, by rw [e2], by simp, hr.1, unhide HS, hr.2⟩, by simp [intOf]; omega⟩
    · have hcy : cy = 0 := by omega
      subst hcy
      have hval := addTo_end (unhide HA) (show M ≤ D.length by omega) (unhide LX) (unhide LY)
      have hH := holds_of_owns (unhide HO) (by omega)
      have hsl : ∃ a n c, u5 = .slice a n c := by
        rcases hH with ⟨h1, _⟩ | ⟨g, c', h1, _⟩
        · exact ⟨_, _, _, h1⟩
        · exact ⟨_, _, _, h1⟩
      have z0 : wr.cell? ⟨w.heap.size + 1 + 1, 0, none⟩ = some (.slice none 0 0) := by rw [(unhide HB).cell (by simp)]; simp [go_sem]
      have z1 : wr.frozen? ⟨w.heap.size + 1 + 1, 0, none⟩ = false := by rw [(unhide HB).frozen (by simp)]; simp [go_sem]
      have hz : w.heap.size + 1 + 1 < wr.heap.size := by have := (unhide HB).size; simp at this; omega
      have HH := hide hH; have HV := hide hval
      clear hH hval hsl
      go_wp2_with fail
      all_goals
        refine (trim_any _ D _ (unhide HH) (unhide HA).1).mono ?_
        rintro e w1 ⟨s', rfl, hN, hb⟩
        obtain ⟨a', n', c', rfl⟩ := hN.slice
        have hc0 : w1.cell? ⟨w.heap.size + 1 + 1, 0, none⟩ = some (.slice none 0 0) := by rw [hb.cell (by simpa using hz)]; exact z0
        have hf0 : w1.frozen? ⟨w.heap.size + 1 + 1, 0, none⟩ = false := by rw [hb.frozen (by simpa using hz)]; exact z1
        rw [unhide HV] at hN
        have HN := hide hN
        clear hN
        go_wp2
        refine bodyPost_ret (v := .agg #[.slice a' n' c']) (by simp [results, Tryz.results118, go_sem, hc0]) rfl ⟨_, rfl, (unhide HN).store hc0 _, ?_⟩
        exact (bthen (unhide HBw) hb).setCell (by simp; omega) _

end Go.Proofs.YtpbgpdmffejdgaaGreatDoor.W
