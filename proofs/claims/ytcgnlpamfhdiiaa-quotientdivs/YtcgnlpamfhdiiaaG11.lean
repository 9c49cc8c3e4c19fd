/- WRefC, WRefE, WRefF, WRefG, WRefH. -/
import Derived.Test.YtcgnlpamfhdiiaaG10
import Derived.Deep.Cut
namespace Go.Proofs.Ytcgnlpamfhdiiaa.W
open Go.RowKit

theorem div_pw_succ (x j : Nat) : x / pw j = x / pw (j + 1) * 4294967296 + dgt x j := by
  unfold dgt
  rw [pw_succ, ← Nat.div_div_eq_div_mul]
  omega
theorem lt_of_div {x y j : Nat} (h : x / pw j < y / pw j) : x < y := Decidable.byContradiction fun hn => by
  have := Nat.div_le_div_right (c := pw j) (show y ≤ x by omega)
  omega
theorem cmp_lt {x y j : Nat} (h : x / pw (j + 1) = y / pw (j + 1)) (hd : dgt x j < dgt y j) : cmpN x y = -1 := by
  have h1 := div_pw_succ x j
  have h2 := div_pw_succ y j
  have := lt_of_div (x := x) (y := y) (j := j) (by omega)
  unfold cmpN; rw [if_pos this]
theorem cmp_gt {x y j : Nat} (h : x / pw (j + 1) = y / pw (j + 1)) (hd : dgt y j < dgt x j) : cmpN x y = 1 := by
  have h1 := div_pw_succ x j
  have h2 := div_pw_succ y j
  have := lt_of_div (x := y) (y := x) (j := j) (by omega)
  unfold cmpN; rw [if_neg (by omega), if_pos this]
theorem cmp_next {x y j : Nat} (h : x / pw (j + 1) = y / pw (j + 1)) (h1 : ¬ dgt x j < dgt y j) (h2 : ¬ dgt y j < dgt x j) : x / pw j = y / pw j := by
  rw [div_pw_succ x j, div_pw_succ y j, h]; omega
theorem cmp_eq {x y : Nat} (h : x / pw 0 = y / pw 0) : cmpN x y = 0 := by
  rw [pw_0, Nat.div_one, Nat.div_one] at h
  subst h; unfold cmpN; simp

/-- The length of a Nat's slice: beyond it there is nothing. -/
theorem IsNat.len {w : World} {a : Option Addr} {n c x : Nat} (h : IsNat w (.slice a n c) x) : x < pw n ∧ n ≤ 1000000 := by
  obtain ⟨D, hH, hs, hC, rfl⟩ := h
  have hv := val_lt hs
  rcases hH with ⟨h1, h2⟩ | ⟨g, c', h1, h2, h3, h4, h5⟩
  · injection h1 with e1 e2 e3; subst e2 h2; exact ⟨hv, by omega⟩
  · injection h1 with e1 e2 e3; subst e2; exact ⟨hv, by omega⟩

set_option maxHeartbeats 1000000 in
theorem refCmp_any (a b : Option Addr) (n c m d x y : Nat) (w : World) (hx : IsNat w (.slice a n c) x) (hy : IsNat w (.slice b m d) y) :
    Calls Try.prog 64 #[.agg #[.slice a n c], .agg #[.slice b m d]] w fun e w' => e = .returned (.int .i64 (cmpN x y)) ∧ Below w.heap.size w w' := by
  obtain ⟨lx, ln⟩ := hx.len
  obtain ⟨ly, lm⟩ := hy.len
  have HX := hide hx; have HY := hide hy; have LX := hide lx; have LY := hide ly
  clear hx hy lx ly
  go_enter Try.func64, Try.ntmps64
  go_wp2_with fail
  all_goals
    have hst : ∃ k : Nat, k ≤ 1000000 ∧ ((k = n ∧ m ≤ n) ∨ (k = m ∧ n ≤ m)) := by
      rcases Nat.le_total n m with h | h
      · exact ⟨m, lm, Or.inr ⟨rfl, h⟩⟩
      · exact ⟨n, ln, Or.inl ⟨rfl, h⟩⟩
    clear hst
    go_loopw [5] (fun i wr => ∃ k : Nat, k ≤ 1000000 ∧ i = .int .i64 ((k : Int) - 1) ∧ x / pw k = y / pw k ∧ wr.cell? ⟨w.heap.size, 0, none⟩ = some (.slice a n c) ∧ wr.cell? ⟨w.heap.size + 1, 0, none⟩ = some (.slice b m d) ∧ IsNat wr (.slice a n c) x ∧ IsNat wr (.slice b m d) y ∧ Below w.heap.size w wr) (fun i _ => ((intOf i) + 1).toNat)
    case atStart =>
      first
      | exact ⟨m, lm, rfl, by rw [Nat.div_eq_of_lt (unhide LY), Nat.div_eq_of_lt (Nat.lt_of_lt_of_le (unhide LX) (pw_le (by omega)))], by simp [go_sem], by simp [go_sem], ((unhide HX).alloc _).alloc _, ((unhide HY).alloc _).alloc _, below2 _ _ _⟩
      | exact ⟨n, ln, rfl, by rw [Nat.div_eq_of_lt (unhide LX), Nat.div_eq_of_lt (Nat.lt_of_lt_of_le (unhide LY) (pw_le (by omega)))], by simp [go_sem], by simp [go_sem], ((unhide HX).alloc _).alloc _, ((unhide HY).alloc _).alloc _, below2 _ _ _⟩
    case round =>
      clear HX HY
      obtain ⟨k, hk, rfl, he, q0, q1, hx, hy, hb⟩ := hrel
      have HE := hide he; have HX := hide hx; have HY := hide hy
      clear he hx hy
      rcases Nat.eq_zero_or_pos k with h0 | h0
      · subst h0
        go_wp2_with fail
        go_ret
        exact ⟨ret1 (cmp_eq (unhide HE)).symm, hb⟩
      · obtain ⟨j, rfl⟩ : ∃ j, k = j + 1 := ⟨k - 1, by omega⟩
        have e1 : ((j + 1 : Nat) : Int) - 1 = (j : Int) := by omega
        rw [e1]
        by_cases d1 : dgt x j < dgt y j
        · have HR := hide (cmp_lt (unhide HE) d1)
          go_wp2_with fail
          go_quiet ((first | (go_at_call_of 68 (Value.slice a n c); exact Calls.quiet_of_same (at_n _ x j _ ((unhide HX).drewN _) (by omega))) | (go_at_call_of 68 (Value.slice b m d); exact Calls.quiet_of_same (at_n _ y j _ ((unhide HY).drewN _) (by omega)))))
          go_wp2
          go_ret
          exact ⟨ret1 (unhide HR).symm, below_drewN hb _⟩
        by_cases d2 : dgt y j < dgt x j
        · have HR := hide (cmp_gt (unhide HE) d2)
          go_wp2_with fail
          go_quiet ((first | (go_at_call_of 68 (Value.slice a n c); exact Calls.quiet_of_same (at_n _ x j _ ((unhide HX).drewN _) (by omega))) | (go_at_call_of 68 (Value.slice b m d); exact Calls.quiet_of_same (at_n _ y j _ ((unhide HY).drewN _) (by omega)))))
          have hq0 : (wr.drewN nq).cell? ⟨w.heap.size, 0, none⟩ = some (.slice a n c) := by simpa using q0
          have hq1 : (wr.drewN nq).cell? ⟨w.heap.size + 1, 0, none⟩ = some (.slice b m d) := by simpa using q1
          have HX := hide ((unhide HX).drewN nq)
          have HY := hide ((unhide HY).drewN nq)
          have hb := below_drewN hb nq
          generalize wr.drewN nq = wq at *
          go_wp2_with fail
          go_quiet ((first | (go_at_call_of 68 (Value.slice a n c); exact Calls.quiet_of_same (at_n _ x j _ ((unhide HX).drewN _) (by omega))) | (go_at_call_of 68 (Value.slice b m d); exact Calls.quiet_of_same (at_n _ y j _ ((unhide HY).drewN _) (by omega)))))
          go_wp2
          go_ret
          exact ⟨ret1 (unhide HR).symm, below_drewN hb _⟩
        · have HR := hide (cmp_next (unhide HE) d1 d2)
          go_wp2_with fail
          go_quiet ((first | (go_at_call_of 68 (Value.slice a n c); exact Calls.quiet_of_same (at_n _ x j _ ((unhide HX).drewN _) (by omega))) | (go_at_call_of 68 (Value.slice b m d); exact Calls.quiet_of_same (at_n _ y j _ ((unhide HY).drewN _) (by omega)))))
          have hq0 : (wr.drewN nq).cell? ⟨w.heap.size, 0, none⟩ = some (.slice a n c) := by simpa using q0
          have hq1 : (wr.drewN nq).cell? ⟨w.heap.size + 1, 0, none⟩ = some (.slice b m d) := by simpa using q1
          have HX := hide ((unhide HX).drewN nq)
          have HY := hide ((unhide HY).drewN nq)
          have hb := below_drewN hb nq
          generalize wr.drewN nq = wq at *
          go_wp2_with fail
          go_quiet ((first | (go_at_call_of 68 (Value.slice a n c); exact Calls.quiet_of_same (at_n _ x j _ ((unhide HX).drewN _) (by omega))) | (go_at_call_of 68 (Value.slice b m d); exact Calls.quiet_of_same (at_n _ y j _ ((unhide HY).drewN _) (by omega)))))
          go_wp2
          go_roundw
          case rel => exact ⟨j, by omega, by go_num, unhide HR, by simpa using hq0, by simpa using hq1, (unhide HX).drewN _, (unhide HY).drewN _, below_drewN hb _⟩
          case measure => simp [intOf]

end Go.Proofs.Ytcgnlpamfhdiiaa.W
namespace Go.Proofs.Ytcgnlpamfhdiiaa.W
open Go.RowKit

/-- The digits as values. -/
def vals (D : List Nat) : List Value := D.map fun d : Nat => Value.int .u64 (d : Int)
theorem vals_snoc (D : List Nat) (d : Nat) : vals D ++ [.int .u64 (d : Int)] = vals (D ++ [d]) := by simp [vals]
/-- An owned row of digits holds them. -/
theorem holds_of_owns {w : World} {base : Nat} {v : Value} {D : List Nat} (h : w.ownsRow base 22 1 v D.length (vals D)) (hcap : D.length ≤ 1000000) : Holds w v D := by
  obtain ⟨h1, h2⟩ := h
  rcases h2 with ⟨h2, h3⟩ | ⟨g, cap, cur, h2, h3, h4, h5, h6, h7, h8⟩
  · exact Or.inl ⟨h2, List.eq_nil_of_length_eq_zero h3⟩
  · refine Or.inr ⟨g, cap, h2, ?_, h5, hcap, fun i hi => ?_⟩
    · rw [Array.getElem?_eq_some_iff] at h4; exact h4.1
    · have := World.ownsRow.cellAt (w := w) (base := base) (e := 22) (size := 1) (g := g) (n := D.length) (cap := cap) (xs := vals D) ⟨h1, Or.inr ⟨g, cap, cur, rfl, h3, h4, h5, h6, h7, h8⟩⟩ i (by omega)
      rw [this]
      unfold vals dg
      rw [List.getElem?_map, List.getD_eq_getElem?_getD, List.getElem?_eq_getElem hi]
      rfl

theorem i22 : Try.prog.info? 22 = some ((Try.prog.info? 22).getD default) := by kernel_rfl
theorem _root_.Go.World.ownsRow.below' {w : World} {base : Nat} {e : TypeId} {size : Nat} {v : Value} {n : Nat} {xs : List Value} (h : w.ownsRow base e size v n xs) (k : Nat) : (w.drewN k).ownsRow base e size v n xs := h

theorem base_le {B : Nat} {w : World} (h : B ≤ w.heap.size) (o : Obj) : B ≤ (w.alloc o).heap.size := by simp; omega
theorem one_cell (x : Int) : ∀ u ∈ [Value.int .u64 x], u.oneCell' = true := by
  intro u hu
  simp at hu
  subst hu
  rfl

/-- A sum behind so many digits. -/
def AddTo (x y : Nat) (D : List Nat) (cy : Nat) : Prop := Small D ∧ cy ≤ 1 ∧ val D + cy * pw D.length = x % pw D.length + y % pw D.length

theorem sum_wrap (p q r : Nat) (hp : p < 4294967296) (hq : q < 4294967296) (hr : r ≤ 1) : IntKind.u64.wrap (IntKind.u64.wrap ((p : Int) + (q : Int)) + (r : Int)) = ((p + q + r : Nat) : Int) := by
  rw [IntKind.wrap_u64, IntKind.wrap_u64]; omega
theorem mod_pw_succ (x k : Nat) : x % pw (k + 1) = x % pw k + dgt x k * pw k := by
  unfold dgt
  rw [pw_succ, Nat.mod_mul, Nat.mul_comm (pw k)]
theorem addTo_nil (x y : Nat) : AddTo x y [] 0 := by
  refine ⟨?_, by omega, ?_⟩
  · intro d hd; simp at hd
  · simp only [val, List.length_nil, pw_0, Nat.mod_one]
theorem addTo_step {x y cy : Nat} {D : List Nat} (h : AddTo x y D cy) : AddTo x y (D ++ [(dgt x D.length + dgt y D.length + cy) % 4294967296]) ((dgt x D.length + dgt y D.length + cy) / 4294967296) := by
  obtain ⟨h1, h2, h3⟩ := h
  have dx := dgt_lt x D.length
  have dy := dgt_lt y D.length
  refine ⟨small_snoc h1 (Nat.mod_lt _ (by omega)), by omega, ?_⟩
  rw [val_snoc, List.length_append, List.length_singleton, mod_pw_succ x, mod_pw_succ y, pw_succ]
  generalize dgt x D.length = p at *
  generalize dgt y D.length = q at *
  generalize pw D.length = P at *
  have e := Nat.div_add_mod (p + q + cy) 4294967296
  generalize (p + q + cy) / 4294967296 = u at *
  generalize (p + q + cy) % 4294967296 = v at *
  have e2 : P * v + u * (P * 4294967296) = p * P + q * P + cy * P := by
    rw [← Nat.add_mul, ← Nat.add_mul, ← e]
    rw [Nat.add_mul, Nat.mul_comm P v, Nat.mul_comm P 4294967296, ← Nat.mul_assoc, Nat.mul_comm u 4294967296]
    omega
  omega
theorem addTo_end {x y M : Nat} {D : List Nat} (h : AddTo x y D 0) (hM : M ≤ D.length) (hx : x < pw M) (hy : y < pw M) : val D = x + y := by
  have hp := pw_le hM
  have h3 := h.2.2
  rw [Nat.zero_mul, Nat.mod_eq_of_lt (by omega), Nat.mod_eq_of_lt (by omega)] at h3
  omega
theorem addTo_last {x y M cy : Nat} {D : List Nat} (h : AddTo x y D cy) (hM : M < D.length) (hx : x < pw M) (hy : y < pw M) : cy = 0 := by
  have hp := pw_le (show M + 1 ≤ D.length by omega)
  rw [pw_succ] at hp
  have h3 := h.2.2
  have h2 := h.2.1
  rw [Nat.mod_eq_of_lt (by omega), Nat.mod_eq_of_lt (by omega)] at h3
  refine Decidable.byContradiction fun hn => ?_
  have : cy = 1 := by omega
  subst this
  omega

/-- A digit more in an owned row. -/
theorem append_round {wq w1 W0 : World} {B : Nat} {v v' : Value} {D : List Nat} {sm : Nat} {o : Obj} (hO : wq.ownsRow B 22 1 v D.length (vals D)) (hB : Below B W0 wq) (hL : B ≤ wq.heap.size)
    (hown : w1.ownsRow B 22 1 v' (D.length + 1) (vals D ++ [.int .u64 ((sm : Int) % 4294967296)])) (hgr : (wq.alloc o).grownBy w1 v.ownBlock) :
    w1.ownsRow B 22 1 v' (D ++ [sm % 4294967296]).length (vals (D ++ [sm % 4294967296])) ∧ Below B W0 w1 := by
  constructor
  · rw [← vals_snoc, List.length_append, List.length_singleton]
    rw [Int.natCast_emod]
    exact hown
  · exact (hB.alloc hL o).grown hgr (base_le hL o) (fun k hk => (hO.lt k hk).1)

set_option maxRecDepth 100000 in
set_option maxHeartbeats 2000000 in
theorem refAdd_any (a b : Option Addr) (n c m d x y : Nat) (w : World) (hx : IsNat w (.slice a n c) x) (hy : IsNat w (.slice b m d) y) (hn : n ≤ 1000) (hm : m ≤ 1000) :
    Calls Try.prog 77 #[.agg #[.slice a n c], .agg #[.slice b m d]] w fun e w' => ∃ s', e = .returned (.agg #[s']) ∧ IsNat w' s' (x + y) ∧ Below w.heap.size w w' := by
  obtain ⟨lx, _⟩ := hx.len
  obtain ⟨ly, _⟩ := hy.len
  obtain ⟨M, hM1, hM2, hM3⟩ : ∃ M, n ≤ M ∧ m ≤ M ∧ (M = n ∨ M = m) := by
    rcases Nat.le_total n m with h | h
    · exact ⟨m, h, Nat.le_refl _, Or.inr rfl⟩
    · exact ⟨n, Nat.le_refl _, h, Or.inl rfl⟩
  have HX := hide hx; have HY := hide hy
  have LX := hide (Nat.lt_of_lt_of_le lx (pw_le hM1)); have LY := hide (Nat.lt_of_lt_of_le ly (pw_le hM2))
  clear hx hy lx ly
  go_enter Try.func77, Try.ntmps77
  go_wp2_with fail
  go_loopw [5, 6, 7] (fun v5 v6 v7 wr => ∃ (D : List Nat) (cy : Nat), D.length ≤ M + 1 ∧ v6 = .int .u64 cy ∧ v7 = .int .i64 D.length ∧ wr.ownsRow (w.heap.size + 3) 22 1 v5 D.length (vals D) ∧ AddTo x y D cy ∧
      Below (w.heap.size + 3) (((w.alloc (.cells #[.slice a n c] 50)).alloc (.cells #[.slice b m d] 50)).alloc (.cells #[.slice none 0 0] 50)) wr) (fun _ _ i _ => M + 1 - (intOf i).toNat)
  case atStart => exact ⟨[], 0, by simp, rfl, rfl, World.ownsRow_nil _ _ _ _, addTo_nil x y, Below.refl _ _⟩
  case round =>
    obtain ⟨D, cy, hD, rfl, rfl, hown, hA, hB⟩ := hrel
    have q0 : wr.cell? ⟨w.heap.size, 0, none⟩ = some (.slice a n c) := by rw [hB.cell (by simp)]; simp [go_sem]
    have q1 : wr.cell? ⟨w.heap.size + 1, 0, none⟩ = some (.slice b m d) := by rw [hB.cell (by simp)]; simp [go_sem]
    have hBw : Below w.heap.size w wr := (balloc (below2 _ _ _) _).trans (hB.mono (by omega))
    have HXr := hide ((unhide HX).below hBw); have HYr := hide ((unhide HY).below hBw)
    have HO := hide hown; have HA := hide hA; have HB := hide hB; have HBw := hide hBw
    clear hown hA hB hBw
    by_cases hc : D.length < M ∨ 0 < cy
    · have es := sum_wrap (dgt x D.length) (dgt y D.length) cy (dgt_lt _ _) (dgt_lt _ _) (unhide HA).2.1
      have ES := hide es
      have HL1 := hide (show D.length + 1 ≤ maxLen by unfold maxLen; omega)
      have HL2 := hide (show (D.length + 1) * 8 ≤ 140737488355328 by omega)
      have HS := hide (addTo_step (unhide HA))
      have HSM := hide (show dgt x D.length + dgt y D.length + cy < 18446744073709551616 by have := dgt_lt x D.length; have := dgt_lt y D.length; have := (unhide HA).2.1; omega)
      have hDM : D.length ≤ M := Decidable.byContradiction fun h => by
        have := addTo_last (unhide HA) (show M < D.length by omega) (unhide LX) (unhide LY)
        omega
      clear es
      go_wp2_with fail
      all_goals
        go_quiet ((first | (go_at_call_of 68 (Value.slice a n c); exact Calls.quiet_of_same (at_n _ x D.length _ ((unhide HXr).drewN _) (by omega))) | (go_at_call_of 68 (Value.slice b m d); exact Calls.quiet_of_same (at_n _ y D.length _ ((unhide HYr).drewN _) (by omega)))))
        have HO := hide ((unhide HO).below' nq); have HB := hide (below_drewN (unhide HB) nq); have HBw := hide (below_drewN (unhide HBw) nq)
        have HL3 := hide (show w.heap.size + 3 ≤ (wr.drewN nq).heap.size by have := (unhide HB).size; simp at this ⊢; omega)
        generalize wr.drewN nq = wq at *
        go_upto_region 7 with fail
        rw [unhide ES]
        generalize dgt x D.length + dgt y D.length + cy = sm at *
        go_wp2_with (at_builtin; refine wpList_append_own _ rfl _ _ 48 rfl (w.heap.size + 3) 22 _ (.int .u64 0) 1 8 Try.underlying48 i22 rfl rfl rfl rfl (by decide) _ _ _ rfl ((unhide HO).alloc _) ⟨wq.heap.size, 0, none⟩ 1 1 [.int .u64 ((sm : Int) % 4294967296)] rfl rfl (cell_one_new _ _ _) (one_cell _) (unhide HL1) (unhide HL2) (base_le (unhide HL3) _) ?_; intro v' w1 hown' hgr _)
        have hr := append_round (unhide HO) (unhide HB) (unhide HL3) hown' hgr
        have e2 : IntKind.u64.wrap ((sm : Int) / 4294967296) = ((sm / 4294967296 : Nat) : Int) := by have := unhide HSM; rw [IntKind.wrap_u64]; omega
        exact ⟨⟨D ++ [sm % 4294967296], sm / 4294967296, by simp; omega, by rw [e2], by simp, hr.1, unhide HS, hr.2⟩, by simp [intOf]; omega⟩
    · have hcy : cy = 0 := by omega
      subst hcy
      have hval := addTo_end (unhide HA) (show M ≤ D.length by omega) (unhide LX) (unhide LY)
      have hH := holds_of_owns (unhide HO) (by omega)
      have hsl : ∃ a n c, u5 = .slice a n c := by
        rcases hH with ⟨h1, _⟩ | ⟨g, c', h1, _⟩
        · exact ⟨_, _, _, h1⟩
        · exact ⟨_, _, _, h1⟩
      have z0 : wr.cell? ⟨w.heap.size + 1 + 1, 0, none⟩ = some (.slice none 0 0) := by rw [(unhide HB).cell (by simp)]; simp [go_sem]
      have z1 : wr.frozen? ⟨w.heap.size + 1 + 1, 0, none⟩ = false := by rw [(unhide HB).frozen (by simp)]; simp [go_sem]
      have hz : w.heap.size + 1 + 1 < wr.heap.size := by have := (unhide HB).size; simp at this; omega
      have HH := hide hH; have HV := hide hval
      clear hH hval hsl
      go_wp2_with fail
      all_goals
        refine (trim_any _ D _ (unhide HH) (unhide HA).1).mono ?_
        rintro e w1 ⟨s', rfl, hN, hb⟩
        obtain ⟨a', n', c', rfl⟩ := hN.slice
        have hc0 : w1.cell? ⟨w.heap.size + 1 + 1, 0, none⟩ = some (.slice none 0 0) := by rw [hb.cell (by simpa using hz)]; exact z0
        have hf0 : w1.frozen? ⟨w.heap.size + 1 + 1, 0, none⟩ = false := by rw [hb.frozen (by simpa using hz)]; exact z1
        rw [unhide HV] at hN
        have HN := hide hN
        clear hN
        go_wp2
        refine bodyPost_ret (v := .agg #[.slice a' n' c']) (by simp [results, Try.results77, go_sem, hc0]) rfl ⟨_, rfl, (unhide HN).store hc0 _, ?_⟩
        exact (bthen (unhide HBw) hb).setCell (by simp; omega) _

end Go.Proofs.Ytcgnlpamfhdiiaa.W
namespace Go.Proofs.Ytcgnlpamfhdiiaa.W
open Go.RowKit

/-- A difference behind so many digits. -/
def SubTo (x y : Nat) (D : List Nat) (br : Nat) : Prop := Small D ∧ br ≤ 1 ∧ x % pw D.length + br * pw D.length = val D + y % pw D.length

theorem subTo_nil (x y : Nat) : SubTo x y [] 0 := by
  refine ⟨?_, by omega, ?_⟩
  · intro d hd; simp at hd
  · simp only [val, List.length_nil, pw_0, Nat.mod_one]
theorem subTo_step {x y br : Nat} {D : List Nat} (h : SubTo x y D br) : SubTo x y (D ++ [(dgt x D.length + 4294967296 - dgt y D.length - br) % 4294967296]) (1 - (dgt x D.length + 4294967296 - dgt y D.length - br) / 4294967296) := by
  obtain ⟨h1, h2, h3⟩ := h
  have dx := dgt_lt x D.length
  have dy := dgt_lt y D.length
  refine ⟨small_snoc h1 (Nat.mod_lt _ (by omega)), by omega, ?_⟩
  rw [val_snoc, List.length_append, List.length_singleton, mod_pw_succ x, mod_pw_succ y, pw_succ]
  generalize dgt x D.length = p at *
  generalize dgt y D.length = q at *
  generalize pw D.length = P at *
  have hs : ∃ s, p + 4294967296 - q - br = s := ⟨_, rfl⟩
  obtain ⟨s, hs⟩ := hs
  rw [hs]
  have hs2 : s + q + br = p + 4294967296 := by omega
  have e := Nat.div_add_mod s 4294967296
  have hu : s / 4294967296 ≤ 1 := by omega
  generalize hu' : s / 4294967296 = u at *
  generalize s % 4294967296 = v at *
  have e2 : v + 4294967296 * u + q + br = p + 4294967296 := by omega
  have e3 : P * v + P * (4294967296 * u) + P * q + P * br = P * p + P * 4294967296 := by
    rw [← Nat.mul_add, ← Nat.mul_add, ← Nat.mul_add, ← Nat.mul_add, e2]
  rw [Nat.mul_comm P br] at e3
  rw [Nat.mul_comm p P, Nat.mul_comm q P]
  have hcase : u = 0 ∨ u = 1 := by omega
  rcases hcase with rfl | rfl
  · simp at e3 ⊢
    omega
  · simp at e3 ⊢
    omega
theorem subTo_end {x y br : Nat} {D : List Nat} (h : SubTo x y D br) (hx : x < pw D.length) (hy : y ≤ x) : val D = x - y := by
  obtain ⟨h1, h2, h3⟩ := h
  have hv := val_lt h1
  rw [Nat.mod_eq_of_lt hx, Nat.mod_eq_of_lt (by omega)] at h3
  have hb : br = 0 ∨ br = 1 := by omega
  rcases hb with rfl | rfl
  · omega
  · omega
theorem diff_wrap (p q r : Nat) (hp : p < 4294967296) (hq : q < 4294967296) (hr : r ≤ 1) :
    IntKind.u64.wrap (IntKind.u64.wrap (IntKind.u64.wrap ((p : Int) + 4294967296) - (q : Int)) - (r : Int)) = ((p + 4294967296 - q - r : Nat) : Int) := by
  rw [IntKind.wrap_u64, IntKind.wrap_u64, IntKind.wrap_u64]; omega

theorem IsNat.digit {w : World} {a : Option Addr} {n c x k : Nat} (h : IsNat w (.slice a n c) x) (hk : k < n) : ∃ g, a = some ⟨g, 0, none⟩ ∧ w.cell? ⟨g, k, none⟩ = some (.int .u64 ((dgt x k : Nat) : Int)) := by
  obtain ⟨D, hH, hs, hC, rfl⟩ := h
  rcases hH with ⟨h1, h2⟩ | ⟨g, c', h1, h2, h3, h4, h5⟩
  · injection h1 with e1 e2 e3; omega
  · injection h1 with e1 e2 e3
    refine ⟨g, e1, ?_⟩
    have := h5 k (by omega)
    rw [at_val D k hs] at this
    exact this

set_option maxRecDepth 100000 in
set_option maxHeartbeats 2000000 in
theorem refSub_any (a b : Option Addr) (n c m d x y : Nat) (w : World) (hx : IsNat w (.slice a n c) x) (hy : IsNat w (.slice b m d) y) (hn : n ≤ 1000) (hle : y ≤ x) :
    Calls Try.prog 78 #[.agg #[.slice a n c], .agg #[.slice b m d]] w fun e w' => ∃ s', e = .returned (.agg #[s']) ∧ IsNat w' s' (x - y) ∧ Below w.heap.size w w' := by
  obtain ⟨lx, _⟩ := hx.len
  have HX := hide hx; have HY := hide hy
  have LX := hide lx; have HLE := hide hle
  clear hx hy lx hle
  go_enter Try.func78, Try.ntmps78
  go_wp2_with fail
  go_loopw [5, 6, 7] (fun v5 v6 v7 wr => ∃ (D : List Nat) (br : Nat), D.length ≤ n ∧ v6 = .int .u64 br ∧ v7 = .int .i64 D.length ∧ wr.ownsRow (w.heap.size + 3) 22 1 v5 D.length (vals D) ∧ SubTo x y D br ∧
      Below (w.heap.size + 3) (((w.alloc (.cells #[.slice a n c] 50)).alloc (.cells #[.slice b m d] 50)).alloc (.cells #[.slice none 0 0] 50)) wr) (fun _ _ i _ => n - (intOf i).toNat)
  case atStart => exact ⟨[], 0, by simp, rfl, rfl, World.ownsRow_nil _ _ _ _, subTo_nil x y, Below.refl _ _⟩
  case round =>
    obtain ⟨D, br, hD, rfl, rfl, hown, hA, hB⟩ := hrel
    have q0 : wr.cell? ⟨w.heap.size, 0, none⟩ = some (.slice a n c) := by rw [hB.cell (by simp)]; simp [go_sem]
    have q1 : wr.cell? ⟨w.heap.size + 1, 0, none⟩ = some (.slice b m d) := by rw [hB.cell (by simp)]; simp [go_sem]
    have hBw : Below w.heap.size w wr := (balloc (below2 _ _ _) _).trans (hB.mono (by omega))
    have HXr := hide ((unhide HX).below hBw); have HYr := hide ((unhide HY).below hBw)
    have HO := hide hown; have HA := hide hA; have HB := hide hB; have HBw := hide hBw
    clear hown hA hB hBw
    by_cases hc : D.length < n
    · have ES := hide (diff_wrap (dgt x D.length) (dgt y D.length) br (dgt_lt _ _) (dgt_lt _ _) (unhide HA).2.1)
      have HL1 := hide (show D.length + 1 ≤ maxLen by unfold maxLen; omega)
      have HL2 := hide (show (D.length + 1) * 8 ≤ 140737488355328 by omega)
      have HS := hide (subTo_step (unhide HA))
      have HSM := hide (show dgt x D.length + 4294967296 - dgt y D.length - br < 8589934592 by have := dgt_lt x D.length; omega)
      obtain ⟨g, rfl, hcell⟩ := (unhide HXr).digit hc
      have hci : (D.length : Int) < (n : Int) := by omega
      go_wp2_with fail
      go_quiet ((go_at_call 68; exact Calls.quiet_of_same (at_n _ y D.length _ ((unhide HYr).drewN _) (by omega))))
      have HO := hide ((unhide HO).below' nq); have HB := hide (below_drewN (unhide HB) nq); have HBw := hide (below_drewN (unhide HBw) nq)
      have HL3 := hide (show w.heap.size + 3 ≤ (wr.drewN nq).heap.size by have := (unhide HB).size; simp at this ⊢; omega)
      generalize wr.drewN nq = wq at *
      go_upto_region 7 with fail
      rw [unhide ES]
      generalize dgt x D.length + 4294967296 - dgt y D.length - br = sm at *
      go_wp2_with (at_builtin; refine wpList_append_own _ rfl _ _ 48 rfl (w.heap.size + 3) 22 _ (.int .u64 0) 1 8 Try.underlying48 i22 rfl rfl rfl rfl (by decide) _ _ _ rfl ((unhide HO).alloc _) ⟨wq.heap.size, 0, none⟩ 1 1 [.int .u64 ((sm : Int) % 4294967296)] rfl rfl (cell_one_new _ _ _) (one_cell _) (unhide HL1) (unhide HL2) (base_le (unhide HL3) _) ?_; intro v' w1 hown' hgr _)
      have hr := append_round (unhide HO) (unhide HB) (unhide HL3) hown' hgr
      have e2 : IntKind.u64.wrap (1 - IntKind.u64.wrap ((sm : Int) / 4294967296)) = ((1 - sm / 4294967296 : Nat) : Int) := by have := unhide HSM; rw [IntKind.wrap_u64, IntKind.wrap_u64]; omega
      exact ⟨⟨D ++ [sm % 4294967296], 1 - sm / 4294967296, by simp; omega, by rw [e2], by simp, hr.1, unhide HS, hr.2⟩, by simp [intOf]; omega⟩
    · have hDn : D.length = n := by omega
      have hval := subTo_end (unhide HA) (by rw [hDn]; exact unhide LX) (unhide HLE)
      have hH := holds_of_owns (unhide HO) (by omega)
      have z0 : wr.cell? ⟨w.heap.size + 1 + 1, 0, none⟩ = some (.slice none 0 0) := by rw [(unhide HB).cell (by simp)]; simp [go_sem]
      have z1 : wr.frozen? ⟨w.heap.size + 1 + 1, 0, none⟩ = false := by rw [(unhide HB).frozen (by simp)]; simp [go_sem]
      have hz : w.heap.size + 1 + 1 < wr.heap.size := by have := (unhide HB).size; simp at this; omega
      have HH := hide hH; have HV := hide hval
      clear hH hval hDn
      go_wp2_with fail
      refine (trim_any _ D _ (unhide HH) (unhide HA).1).mono ?_
      rintro e w1 ⟨s', rfl, hN, hb⟩
      obtain ⟨a', n', c', rfl⟩ := hN.slice
      have hc0 : w1.cell? ⟨w.heap.size + 1 + 1, 0, none⟩ = some (.slice none 0 0) := by rw [hb.cell (by simpa using hz)]; exact z0
      have hf0 : w1.frozen? ⟨w.heap.size + 1 + 1, 0, none⟩ = false := by rw [hb.frozen (by simpa using hz)]; exact z1
      rw [unhide HV] at hN
      have HN := hide hN
      clear hN
      go_wp2
      refine bodyPost_ret (v := .agg #[.slice a' n' c']) (by simp [results, Try.results78, go_sem, hc0]) rfl ⟨_, rfl, (unhide HN).store hc0 _, ?_⟩
      exact (bthen (unhide HBw) hb).setCell (by simp; omega) _

end Go.Proofs.Ytcgnlpamfhdiiaa.W
namespace Go.Proofs.Ytcgnlpamfhdiiaa.W
open Go.RowKit

/-- A product by a power of two behind so many digits: e noughts first, then i digits. -/
def ShlTo (x e u i : Nat) (D : List Nat) (cy : Nat) : Prop := Small D ∧ cy < u ∧ D.length = e + i ∧ val D + cy * pw D.length = x % pw i * u * pw e

theorem shlTo_0 {x e u : Nat} {D : List Nat} (hs : Small D) (hl : D.length = e) (hv : val D = 0) (hu : 0 < u) : ShlTo x e u 0 D 0 := by
  refine ⟨hs, hu, by omega, ?_⟩
  rw [hv, pw_0, Nat.mod_one, Nat.zero_mul, Nat.zero_mul, Nat.zero_mul]
theorem shlTo_step {x e u i cy : Nat} {D : List Nat} (h : ShlTo x e u i D cy) : ShlTo x e u (i + 1) (D ++ [(dgt x i * u + cy) % 4294967296]) ((dgt x i * u + cy) / 4294967296) := by
  obtain ⟨h1, h2, h3, h4⟩ := h
  have dx := dgt_lt x i
  have hlt : dgt x i * u + cy < 4294967296 * u := by
    have := Nat.mul_le_mul_right u (show dgt x i ≤ 4294967295 by omega)
    omega
  refine ⟨small_snoc h1 (Nat.mod_lt _ (by omega)), Nat.div_lt_of_lt_mul hlt, by simp; omega, ?_⟩
  rw [val_snoc, List.length_append, List.length_singleton, mod_pw_succ x, pw_succ]
  have he := Nat.div_add_mod (dgt x i * u + cy) 4294967296
  generalize (dgt x i * u + cy) / 4294967296 = q at *
  generalize (dgt x i * u + cy) % 4294967296 = r at *
  have e2 : pw D.length * r + q * (pw D.length * 4294967296) = (dgt x i * u + cy) * pw D.length := by
    rw [← he, Nat.add_mul, Nat.mul_comm r, Nat.mul_comm (pw D.length) 4294967296, ← Nat.mul_assoc, Nat.mul_comm q 4294967296]
    omega
  rw [Nat.add_assoc, e2, Nat.add_mul, Nat.add_mul, Nat.add_mul]
  rw [show dgt x i * pw i * u * pw e = dgt x i * u * pw D.length by rw [h3, pw_add]; rw [Nat.mul_right_comm (dgt x i) (pw i) u, Nat.mul_assoc (dgt x i * u), Nat.mul_comm (pw i)]]
  omega
theorem shlTo_end {x e u n cy : Nat} {D : List Nat} (h : ShlTo x e u n D cy) (hx : x < pw n) (hu : u ≤ 4294967296) : Small (D ++ [cy]) ∧ val (D ++ [cy]) = x * u * pw e := by
  obtain ⟨h1, h2, h3, h4⟩ := h
  refine ⟨small_snoc h1 (by omega), ?_⟩
  rw [Nat.mod_eq_of_lt hx] at h4
  rw [val_snoc, Nat.mul_comm (pw D.length)]
  exact h4
theorem shl_two (x k : Nat) : x * 2 ^ (k % 32) * pw (k / 32) = x * 2 ^ k := by
  rw [pw_two, Nat.mul_assoc, ← Nat.pow_add]
  congr 2
  omega
theorem small_zero {D : List Nat} (h : Small D) : Small (D ++ [0]) := small_snoc h (by omega)
theorem unit_step (j : Nat) (h : j < 32) : IntKind.u64.wrap (2 * ((2 ^ j : Nat) : Int)) = ((2 ^ (j + 1) : Nat) : Int) := by
  have h1 := Nat.pow_le_pow_right (show 0 < 2 by omega) (show j ≤ 31 by omega)
  rw [Nat.pow_succ, IntKind.wrap_u64]
  have h2 : (2 : Nat) ^ 31 = 2147483648 := rfl
  omega
theorem mul_wrap (p u r : Nat) (hp : p < 4294967296) (hu : u ≤ 2147483648) (hr : r < u) : IntKind.u64.wrap (IntKind.u64.wrap ((p : Int) * (u : Int)) + (r : Int)) = ((p * u + r : Nat) : Int) := by
  have h := Nat.mul_le_mul (show p ≤ 4294967295 by omega) hu
  rw [← Int.natCast_mul, IntKind.wrap_u64, IntKind.wrap_u64]
  generalize p * u = z at *
  omega
theorem unit_le (k : Nat) : 2 ^ (k % 32) ≤ 2147483648 := by
  have h1 := Nat.pow_le_pow_right (show 0 < 2 by omega) (show k % 32 ≤ 31 by omega)
  exact h1

theorem append_one {wq w1 W0 : World} {B : Nat} {v v' : Value} {D : List Nat} {d : Nat} {o : Obj} (hO : wq.ownsRow B 22 1 v D.length (vals D)) (hB : Below B W0 wq) (hL : B ≤ wq.heap.size)
    (hown : w1.ownsRow B 22 1 v' (D.length + 1) (vals D ++ [.int .u64 (d : Int)])) (hgr : (wq.alloc o).grownBy w1 v.ownBlock) :
    w1.ownsRow B 22 1 v' (D ++ [d]).length (vals (D ++ [d])) ∧ Below B W0 w1 := by
  constructor
  · rw [← vals_snoc, List.length_append, List.length_singleton]
    exact hown
  · exact (hB.alloc hL o).grown hgr (base_le hL o) (fun k hk => (hO.lt k hk).1)

set_option maxRecDepth 100000 in
set_option maxHeartbeats 2000000 in
theorem refShl_any (a : Option Addr) (n c x k : Nat) (w : World) (hx : IsNat w (.slice a n c) x) (hn : n ≤ 1000) (hk : k ≤ 10000) :
    Calls Try.prog 65 #[.agg #[.slice a n c], .int .i64 (k : Int)] w fun e w' => ∃ s', e = .returned (.agg #[s']) ∧ IsNat w' s' (x * 2 ^ k) ∧ Below w.heap.size w w' := by
  obtain ⟨lx, _⟩ := hx.len
  have HX := hide hx; have LX := hide lx
  clear hx lx
  go_enter Try.func65, Try.ntmps65
  go_wp2_with fail
  go_loopw [5, 6] (fun v5 v6 wr => ∃ D : List Nat, D.length ≤ k / 32 ∧ v6 = .int .i64 D.length ∧ wr.ownsRow (w.heap.size + 2) 22 1 v5 D.length (vals D) ∧ Small D ∧ val D = 0 ∧
      Below (w.heap.size + 2) ((w.alloc (.cells #[.slice a n c] 50)).alloc (.cells #[.slice none 0 0] 50)) wr) (fun _ i _ => k / 32 - (intOf i).toNat)
  case atStart => exact ⟨[], by simp, rfl, World.ownsRow_nil _ _ _ _, (fun d hd => by simp at hd), rfl, Below.refl _ _⟩
  case round =>
    obtain ⟨D, hD, rfl, hown, hS, hV, hB⟩ := hrel
    have HO := hide hown; have HS := hide hS; have HV := hide hV; have HB := hide hB
    have HL1 := hide (show D.length + 1 ≤ maxLen by unfold maxLen; omega)
    have HL2 := hide (show (D.length + 1) * 8 ≤ 140737488355328 by omega)
    have HL3 := hide (show w.heap.size + 2 ≤ wr.heap.size by have := (unhide HB).size; simp at this ⊢; omega)
    clear hown hS hV hB
    by_cases hc : D.length < k / 32
    · go_wp2_with (at_builtin; refine wpList_append_own _ rfl _ _ 48 rfl (w.heap.size + 2) 22 _ (.int .u64 0) 1 8 Try.underlying48 i22 rfl rfl rfl rfl (by decide) _ _ _ rfl ((unhide HO).alloc _) ⟨wr.heap.size, 0, none⟩ 1 1 [.int .u64 0] rfl rfl (cell_one_new _ _ _) (one_cell _) (unhide HL1) (unhide HL2) (base_le (unhide HL3) _) ?_; intro v' w1 hown' hgr _)
      have hr := append_round (sm := 0) (unhide HO) (unhide HB) (unhide HL3) hown' hgr
      exact ⟨⟨D ++ [0], by simp; omega, by simp, hr.1, small_zero (unhide HS), by rw [val_snoc, unhide HV]; simp, hr.2⟩, by simp [intOf]; omega⟩
    · have hDk : D.length = k / 32 := by omega
      have HDk := hide hDk
      clear hDk
      go_wp2_with fail
      go_loop [7, 8] (fun v7 v8 => ∃ j : Nat, j ≤ k % 32 ∧ v8 = .int .i64 j ∧ v7 = .int .u64 ((2 ^ j : Nat) : Int)) (fun _ i => k % 32 - (intOf i).toNat)
      case atStart => exact ⟨0, by omega, rfl, rfl⟩
      case round =>
        obtain ⟨j, hj, rfl, rfl⟩ := hrel
        by_cases hc2 : j < k % 32
        · have HU := hide (unit_step j (by omega))
          generalize 2 ^ j = uj at *
          go_wp2_with fail
          rw [unhide HU]
          exact ⟨⟨j + 1, by omega, by go_num, rfl⟩, by simp [intOf]; omega⟩
        · have hjk : j = k % 32 := by omega
          have HU := hide (unit_le k)
          have HUp := hide (Nat.two_pow_pos (k % 32))
          have HR := hide (shl_two x k)
          rw [hjk]
          clear hjk hc2 hj
          generalize 2 ^ (k % 32) = u at *
          go_wp2_with fail
          go_loopw [5, 9, 10] (fun v5 v9 v10 wr => ∃ (E : List Nat) (cy i : Nat), i ≤ n ∧ v9 = .int .u64 cy ∧ v10 = .int .i64 i ∧ wr.ownsRow (w.heap.size + 2) 22 1 v5 E.length (vals E) ∧ ShlTo x (k / 32) u i E cy ∧
              Below (w.heap.size + 2) ((w.alloc (.cells #[.slice a n c] 50)).alloc (.cells #[.slice none 0 0] 50)) wr) (fun _ _ i _ => n - (intOf i).toNat)
          case atStart => exact ⟨D, 0, 0, by omega, rfl, rfl, unhide HO, shlTo_0 (unhide HS) (unhide HDk) (unhide HV) (unhide HUp), unhide HB⟩
          case round =>
            clear HO HS HV HB HL1 HL2 HL3
            obtain ⟨E, cy, i, hi, rfl, rfl, hown, hA, hB⟩ := hrel
            have q0 : wr.cell? ⟨w.heap.size, 0, none⟩ = some (.slice a n c) := by rw [hB.cell (by simp)]; simp [go_sem]
            have hBw : Below w.heap.size w wr := (below2 _ _ _).trans (hB.mono (by omega))
            have HXr := hide ((unhide HX).below hBw)
            have hE : E.length ≤ 2000 := by have := hA.2.2.1; omega
            have HO := hide hown; have HA := hide hA; have HB := hide hB; have HBw := hide hBw
            have HL1 := hide (show E.length + 1 ≤ maxLen by unfold maxLen; omega)
            have HL2 := hide (show (E.length + 1) * 8 ≤ 140737488355328 by omega)
            have HL3 := hide (show w.heap.size + 2 ≤ wr.heap.size by have := (unhide HB).size; simp at this ⊢; omega)
            clear hown hA hB hBw
            by_cases hc3 : i < n
            · have ES := hide (mul_wrap (dgt x i) u cy (dgt_lt _ _) (unhide HU) (unhide HA).2.1)
              have HS := hide (shlTo_step (unhide HA))
              have HSM := hide (show dgt x i * u + cy < 18446744073709551616 by
                have h1 := Nat.mul_le_mul (show dgt x i ≤ 4294967295 by have := dgt_lt x i; omega) (unhide HU)
                have h2 := (unhide HA).2.1
                have h3 := unhide HU
                omega)
              obtain ⟨g, rfl, hcell⟩ := (unhide HXr).digit hc3
              have hci : (i : Int) < (n : Int) := by omega
              go_upto_region 16 with fail
              rw [unhide ES]
              generalize dgt x i * u + cy = sm at *
              go_wp2_with (at_builtin; refine wpList_append_own _ rfl _ _ 48 rfl (w.heap.size + 2) 22 _ (.int .u64 0) 1 8 Try.underlying48 i22 rfl rfl rfl rfl (by decide) _ _ _ rfl ((unhide HO).alloc _) ⟨wr.heap.size, 0, none⟩ 1 1 [.int .u64 ((sm : Int) % 4294967296)] rfl rfl (cell_one_new _ _ _) (one_cell _) (unhide HL1) (unhide HL2) (base_le (unhide HL3) _) ?_; intro v' w1 hown' hgr _)
              have hr := append_round (unhide HO) (unhide HB) (unhide HL3) hown' hgr
              have e2 : IntKind.u64.wrap ((sm : Int) / 4294967296) = ((sm / 4294967296 : Nat) : Int) := by have := unhide HSM; rw [IntKind.wrap_u64]; omega
              exact ⟨⟨E ++ [sm % 4294967296], sm / 4294967296, i + 1, by omega, by rw [e2], by go_num, hr.1, unhide HS, hr.2⟩, by simp [intOf]; omega⟩
            · have hin : i = n := by omega
              have hend := shlTo_end (n := n) (by rw [← hin]; exact unhide HA) (unhide LX) (by have := unhide HU; omega)
              rw [unhide HR] at hend
              have z0 : wr.cell? ⟨w.heap.size + 1, 0, none⟩ = some (.slice none 0 0) := by rw [(unhide HB).cell (by simp)]; simp [go_sem]
              have z1 : wr.frozen? ⟨w.heap.size + 1, 0, none⟩ = false := by rw [(unhide HB).frozen (by simp)]; simp [go_sem]
              have hz : w.heap.size + 1 < wr.heap.size := by have := (unhide HB).size; simp at this; omega
              have HE := hide hend
              clear hend hin
              go_wp2_with (at_builtin; refine wpList_append_own _ rfl _ _ 48 rfl (w.heap.size + 2) 22 _ (.int .u64 0) 1 8 Try.underlying48 i22 rfl rfl rfl rfl (by decide) _ _ _ rfl ((unhide HO).alloc _) ⟨wr.heap.size, 0, none⟩ 1 1 [.int .u64 (cy : Int)] rfl rfl (cell_one_new _ _ _) (one_cell _) (unhide HL1) (unhide HL2) (base_le (unhide HL3) _) ?_; intro v' w1 hown' hgr _)
              have hr := append_one (unhide HO) (unhide HB) (unhide HL3) hown' hgr
              have c0 : w1.cell? ⟨w.heap.size + 1, 0, none⟩ = some (.slice none 0 0) := by rw [hr.2.cell (by simp)]; simp [go_sem]
              have c1 : w1.frozen? ⟨w.heap.size + 1, 0, none⟩ = false := by rw [hr.2.frozen (by simp)]; simp [go_sem]
              have hz1 : w.heap.size + 1 < w1.heap.size := by have := hr.2.size; simp at this; omega
              have hBw1 : Below w.heap.size w w1 := (below2 _ _ _).trans (hr.2.mono (by omega))
              refine (trim_any _ (E ++ [cy]) _ (holds_of_owns hr.1 (by simp; omega)) (unhide HE).1).mono ?_
              rintro e w2 ⟨s', rfl, hN, hb⟩
              obtain ⟨a', n', c', rfl⟩ := hN.slice
              have hc0 : w2.cell? ⟨w.heap.size + 1, 0, none⟩ = some (.slice none 0 0) := by rw [hb.cell (by simpa using hz1)]; exact c0
              have hf0 : w2.frozen? ⟨w.heap.size + 1, 0, none⟩ = false := by rw [hb.frozen (by simpa using hz1)]; exact c1
              rw [(unhide HE).2] at hN
              have HN := hide hN
              have HB2 := hide (bthen hBw1 hb)
              clear hN hr hBw1 hown' hgr
              go_wp2
              refine bodyPost_ret (v := .agg #[.slice a' n' c']) (by simp [results, Try.results65, go_sem, hc0]) rfl ⟨_, rfl, (unhide HN).store hc0 _, ?_⟩
              exact (unhide HB2).setCell (by simp) _

end Go.Proofs.Ytcgnlpamfhdiiaa.W
namespace Go.Proofs.Ytcgnlpamfhdiiaa.W
open Go.RowKit

theorem IsNat.short {w : World} {a : Option Addr} {n c x k : Nat} (h : IsNat w (.slice a n c) x) (hx : x < pw k) : n ≤ k := by
  obtain ⟨D, hH, hs, hC, rfl⟩ := h
  have := canon_len hC hx
  rcases hH with ⟨h1, h2⟩ | ⟨g, c', h1, h2, h3, h4, h5⟩
  · injection h1 with e1 e2 e3; omega
  · injection h1 with e1 e2 e3; omega
theorem lt_pw {x k : Nat} (j : Nat) (h : x < pw k) (hk : k ≤ j) : x < pw j := Nat.lt_of_lt_of_le h (pw_le hk)
end Go.Proofs.Ytcgnlpamfhdiiaa.W
