/- WRefC. -/
import Derived.Test.YtpbgpdmffejdgaaGreatDoorS11
namespace Go.Proofs.YtpbgpdmffejdgaaGreatDoor.W
open Go.RowKit

theorem div_pw_succ (x j : Nat) : x / pw j = x / pw (j + 1) * 4294967296 + dgt x j := by
  unfold dgt
  rw [pw_succ, ← Nat.div_div_eq_div_mul]
  omega
theorem lt_of_div {x y j : Nat} (h : x / pw j < y / pw j) : x < y := Decidable.byContradiction fun hn => by
  have := Nat.div_le_div_right (c := pw j) (show y ≤ x by omega)
  omega
theorem cmp_lt {x y j : Nat} (h : x / pw (j + 1) = y / pw (j + 1)) (hd : dgt x j < dgt y j) : cmpN x y = -1 := by
  have h1 := div_pw_succ x j
  have h2 := div_pw_succ y j
  have := lt_of_div (x := x) (y := y) (j := j) (by omega)
  unfold cmpN; rw [if_pos this]
theorem cmp_gt {x y j : Nat} (h : x / pw (j + 1) = y / pw (j + 1)) (hd : dgt y j < dgt x j) : cmpN x y = 1 := by
  have h1 := div_pw_succ x j
  have h2 := div_pw_succ y j
  have := lt_of_div (x := y) (y := x) (j := j) (by omega)
  unfold cmpN; rw [if_neg (by omega), if_pos this]
theorem cmp_next {x y j : Nat} (h : x / pw (j + 1) = y / pw (j + 1)) (h1 : ¬ dgt x j < dgt y j) (h2 : ¬ dgt y j < dgt x j) : x / pw j = y / pw j := by
  rw [div_pw_succ x j, div_pw_succ y j, h]; omega
theorem cmp_eq {x y : Nat} (h : x / pw 0 = y / pw 0) : cmpN x y = 0 := by
  rw [pw_0, Nat.div_one, Nat.div_one] at h
  subst h; unfold cmpN; simp

/-- The length of a Nat's slice: beyond it there is nothing. -/
theorem IsNat.len {w : World} {a : Option Addr} {n c x : Nat} (h : IsNat w (.slice a n c) x) : x < pw n ∧ n ≤ 1000000 := by
  obtain ⟨D, hH, hs, hC, rfl⟩ := h
  have hv := val_lt hs
  rcases hH with ⟨h1, h2⟩ | ⟨g, c', h1, h2, h3, h4, h5⟩
  · injection h1 with e1 e2 e3; subst e2 h2; exact ⟨hv, by omega⟩
  · injection h1 with e1 e2 e3; subst e2; exact ⟨hv, by omega⟩

set_option maxHeartbeats 1000000 in
theorem refCmp_any (a b : Option Addr) (n c m d x y : Nat) (w : World) (hx : IsNat w (.slice a n c) x) (hy : IsNat w (.slice b m d) y) :
    Calls Tryz.prog 58 #[.agg #[.slice a n c], .agg #[.slice b m d]] w fun e w' => e = .returned (.int .i64 (cmpN x y)) ∧ Below w.heap.size w w' := by
  obtain ⟨lx, ln⟩ := hx.len
  obtain ⟨ly, lm⟩ := hy.len
  have HX := hide hx; have HY := hide hy; have LX := hide lx; have LY := hide ly
  clear hx hy lx ly
  go_enter Tryz.func58, Tryz.ntmps58
  go_wp2_with fail
  all_goals
    have hst : ∃ k : Nat, k ≤ 1000000 ∧ ((k = n ∧ m ≤ n) ∨ (k = m ∧ n ≤ m)) := by
      rcases Nat.le_total n m with h | h
      · exact ⟨m, lm, Or.inr ⟨rfl, h⟩⟩
      · exact ⟨n, ln, Or.inl ⟨rfl, h⟩⟩
    clear hst
    go_loopw [5] (fun i wr => ∃ k : Nat, k ≤ 1000000 ∧ i = .int .i64 ((k : Int) - 1) ∧ x / pw k = y / pw k ∧ wr.cell? ⟨w.heap.size, 0, none⟩ = some (.slice a n c) ∧ wr.cell? ⟨w.heap.size + 1, 0, none⟩ = some (.slice b m d) ∧ IsNat wr (.slice a n c) x ∧ IsNat wr (.slice b m d) y ∧ Below w.heap.size w wr) (fun i _ => ((intOf i) + 1).toNat)
    case atStart =>
      first
      | exact ⟨m, lm, rfl, by rw [Nat.div_eq_of_lt (unhide LY), Nat.div_eq_of_lt (Nat.lt_of_lt_of_le (unhide LX) (pw_le (by omega)))], by simp [go_sem], by simp [go_sem], ((unhide HX).alloc _).alloc _, ((unhide HY).alloc _).alloc _, below2 _ _ _⟩
      | exact ⟨n, ln, rfl, by rw [Nat.div_eq_of_lt (unhide LX), Nat.div_eq_of_lt (Nat.lt_of_lt_of_le (unhide LY) (pw_le (by omega)))], by simp [go_sem], by simp [go_sem], ((unhide HX).alloc _).alloc _, ((unhide HY).alloc _).alloc _, below2 _ _ _⟩
    case round =>
      clear HX HY
      obtain ⟨k, hk, rfl, he, q0, q1, hx, hy, hb⟩ := hrel
      have HE := hide he; have HX := hide hx; have HY := hide hy
      clear he hx hy
      rcases Nat.eq_zero_or_pos k with h0 | h0
      · subst h0
        go_wp2_with fail
        go_ret
        exact ⟨ret1 (cmp_eq (unhide HE)).symm, hb⟩
      · obtain ⟨j, rfl⟩ : ∃ j, k = j + 1 := ⟨k - 1, by omega⟩
        have e1 : ((j + 1 : Nat) : Int) - 1 = (j : Int) := by omega
        rw [e1]
        by_cases d1 : dgt x j < dgt y j
        · have HR := hide (cmp_lt (unhide HE) d1)
          go_wp2_with fail
          go_quiet ((first | (go_at_call_of 56 (Value.slice a n c); exact Calls.quiet_of_same (at_n _ x j _ ((unhide HX).drewN _) (by omega))) | (go_at_call_of 56 (Value.slice b m d); exact Calls.quiet_of_same (at_n _ y j _ ((unhide HY).drewN _) (by omega)))))
          go_wp2
          go_ret
          exact ⟨ret1 (unhide HR).symm, below_drewN hb _⟩
        by_cases d2 : dgt y j < dgt x j
        · have HR := hide (cmp_gt (unhide HE) d2)
          go_wp2_with fail
          go_quiet ((first | (go_at_call_of 56 (Value.slice a n c); exact Calls.quiet_of_same (at_n _ x j _ ((unhide HX).drewN _) (by omega))) | (go_at_call_of 56 (Value.slice b m d); exact Calls.quiet_of_same (at_n _ y j _ ((unhide HY).drewN _) (by omega)))))
          have hq0 : (wr.drewN nq).cell? ⟨w.heap.size, 0, none⟩ = some (.slice a n c) := by simpa using q0
          have hq1 : (wr.drewN nq).cell? ⟨w.heap.size + 1, 0, none⟩ = some (.slice b m d) := by simpa using q1
          have HX := hide ((unhide HX).drewN nq)
          have HY := hide ((unhide HY).drewN nq)
          have hb := below_drewN hb nq
          generalize wr.drewN nq = wq at *
          go_wp2_with fail
          go_quiet ((first | (go_at_call_of 56 (Value.slice a n c); exact Calls.quiet_of_same (at_n _ x j _ ((unhide HX).drewN _) (by omega))) | (go_at_call_of 56 (Value.slice b m d); exact Calls.quiet_of_same (at_n _ y j _ ((unhide HY).drewN _) (by omega)))))
          go_wp2
          go_ret
          exact ⟨ret1 (unhide HR).symm, below_drewN hb _⟩
        · have HR := hide (cmp_next (unhide HE) d1 d2)
          go_wp2_with fail
          go_quiet ((first | (go_at_call_of 56 (Value.slice a n c); exact Calls.quiet_of_same (at_n _ x j _ ((unhide HX).drewN _) (by omega))) | (go_at_call_of 56 (Value.slice b m d); exact Calls.quiet_of_same (at_n _ y j _ ((unhide HY).drewN _) (by omega)))))
          have hq0 : (wr.drewN nq).cell? ⟨w.heap.size, 0, none⟩ = some (.slice a n c) := by simpa using q0
          have hq1 : (wr.drewN nq).cell? ⟨w.heap.size + 1, 0, none⟩ = some (.slice b m d) := by simpa using q1
          have HX := hide ((unhide HX).drewN nq)
          have HY := hide ((unhide HY).drewN nq)
          have hb := below_drewN hb nq
          generalize wr.drewN nq = wq at *
          go_wp2_with fail
          go_quiet ((first | (go_at_call_of 56 (Value.slice a n c); exact Calls.quiet_of_same (at_n _ x j _ ((unhide HX).drewN _) (by omega))) | (go_at_call_of 56 (Value.slice b m d); exact Calls.quiet_of_same (at_n _ y j _ ((unhide HY).drewN _) (by omega)))))
          go_wp2
          go_roundw
          case rel => exact ⟨j, by omega, by go_num, unhide HR, by simpa using hq0, by simpa using hq1, (unhide HX).drewN _, (unhide HY).drewN _, below_drewN hb _⟩
          case measure => simp [intOf]

end Go.Proofs.YtpbgpdmffejdgaaGreatDoor.W
