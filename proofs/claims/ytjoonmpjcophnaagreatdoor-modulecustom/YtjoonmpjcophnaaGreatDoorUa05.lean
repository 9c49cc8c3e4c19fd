/- LbA. -/
import Derived.Test.YtjoonmpjcophnaaGreatDoorUa01
import Derived.BigQuiet
namespace Go.Proofs.YtjoonmpjcophnaaGreatDoor
open Go.RowKit

/-- A slice of bytes that holds these. -/
def Sl (w : World) (a : Option Addr) (len cap : Nat) (xs : List Int) : Prop :=
  xs.length = len ∧ len ≤ cap ∧ len ≤ 140737488355328 ∧ (a = none ∧ len = 0 ∧ cap = 0 ∨ ∃ b off, a = some ⟨b, off, none⟩ ∧ ∀ j, j < len → w.cell? ⟨b, off + j, none⟩ = some (.int .u8 (xs.getD j 0)))
theorem Sl.below {w w' : World} {a : Option Addr} {len cap : Nat} {xs : List Int} (h : Sl w a len cap xs) (hb : Below w.heap.size w w') : Sl w' a len cap xs := by
  obtain ⟨h1, h2, h3, h4⟩ := h
  refine ⟨h1, h2, h3, ?_⟩
  rcases h4 with h4 | ⟨b, off, h5, h6⟩
  · exact Or.inl h4
  · exact Or.inr ⟨b, off, h5, fun j hj => by rw [hb.cell (World.block_lt_of_cell? w _ (h6 j hj))]; exact h6 j hj⟩

theorem below_drewN {n : Nat} {a b : World} (h : Below n a b) (k : Nat) : Below n a (b.drewN k) := by
  induction k with
  | zero => exact h
  | succ k ih => exact ih.drew
theorem i64_in {z : Int} (h1 : -9223372036854775808 ≤ z) (h2 : z < 9223372036854775808) : IntKind.i64.wrap z = z := i64_id h1 h2
theorem dec_shr (c n : Nat) : (((c : Int) / 2 ^ n) == 0) = decide ((c : Int) < 2 ^ n) := by
  have e : ((2 : Int) ^ n) = ((2 ^ n : Nat) : Int) := by rw [Int.natCast_pow]; rfl
  have hp : 0 < 2 ^ n := Nat.pow_pos (by omega)
  rw [e, ← Int.natCast_ediv]
  generalize 2 ^ n = p at *
  by_cases h : c < p
  · rw [Nat.div_eq_of_lt h, decide_eq_true (by omega)]; rfl
  · rw [decide_eq_false (by omega), beq_eq_false_iff_ne]
    have := Nat.div_pos (Nat.le_of_not_lt h) hp
    omega
set_option maxHeartbeats 4000000 in
set_option maxRecDepth 100000 in
theorem lastU {c n : Nat} (c1 : c < 128) (l1 : n ≤ 64) : Ct 97 #[.int .u8 (c : Int), .int .i64 (n : Int)] (.tuple #[.int .u64 (VU c % 18446744073709551616), .bool (okU c n)]) := by
  have e1 : VU c % 18446744073709551616 = c := by unfold VU; omega
  have HE := hide (dec_shr c n)
  rw [e1]
  refine hide (fun W => ?_)
  have HB := hide (Below.refl W.heap.size W)
  go_enter Tryz.func97, Tryz.ntmps97
  go_wp2_with fail
  go_quiet (fail)
  go_wp2_with fail
  go_ret2
  exact ⟨by rw [unhide HE]; rfl, below_drewN (unhide HB) _⟩
theorem shr_ok (z : Int) (m : Nat) : ((z / 2 ^ m == 0) || (z / 2 ^ m == -1)) = decide (-(2 ^ m) ≤ z ∧ z < 2 ^ m) := by
  have hp : (0 : Int) < 2 ^ m := Int.pow_pos (by omega)
  have h1 := Int.mul_ediv_add_emod z (2 ^ m)
  have h2 := Int.emod_nonneg z (Int.ne_of_gt hp)
  have h3 := Int.emod_lt_of_pos z hp
  generalize (2 : Int) ^ m = p at *
  generalize z / p = q at *
  generalize z % p = r at *
  rw [Bool.eq_iff_iff]
  simp only [Bool.or_eq_true, beq_iff_eq, decide_eq_true_eq]
  constructor
  · rintro (rfl | rfl)
    · omega
    · omega
  · rintro ⟨h4, h5⟩
    have a1 : q < 1 := by
      refine Decidable.byContradiction fun hn => ?_
      have := Int.mul_le_mul_of_nonneg_left (show (1 : Int) ≤ q by omega) (Int.le_of_lt hp)
      omega
    have a2 : -2 < q := by
      refine Decidable.byContradiction fun hn => ?_
      have := Int.mul_le_mul_of_nonneg_left (show q ≤ (-2 : Int) by omega) (Int.le_of_lt hp)
      omega
    omega
set_option maxHeartbeats 4000000 in
set_option maxRecDepth 100000 in
theorem lastS {c n : Nat} (c1 : c < 128) (l0 : 1 ≤ n) (l1 : n ≤ 64) : Ct 189 #[.int .u8 (c : Int), .int .i64 (n : Int)] (.tuple #[.int .u64 (VS c % 18446744073709551616), .bool (okS c n)]) := by
  have HE := hide (shr_ok (VS c) (n - 1))
  have hl : IntKind.i64.wrap ((n : Int) - 1) = ((n - 1 : Nat) : Int) := by rw [i64_in (by omega) (by omega)]; omega
  by_cases h : c < 64
  · have hv : VS c = c := by unfold VS; rw [if_pos (by omega)]
    unfold okS
    rw [hv] at HE ⊢
    rw [← unhide HE, show (c : Int) % 18446744073709551616 = c by omega]
    have h' : (c : Int) < 64 := by omega
    refine hide (fun W => ?_)
    have HB := hide (Below.refl W.heap.size W)
    go_enter Tryz.func189, Tryz.ntmps189
    go_wp2_with fail
    · rename_i _ hz
      go_ret2
      exact ⟨by rw [hz]; rfl, unhide HB⟩
    · go_ret2
      exact ⟨rfl, unhide HB⟩
  · have hv : VS c = (c : Int) - 128 := by unfold VS; rw [if_neg (by omega)]
    unfold okS
    rw [hv] at HE ⊢
    rw [← unhide HE]
    have h' : ¬ (c : Int) < 64 := by omega
    refine hide (fun W => ?_)
    have HB := hide (Below.refl W.heap.size W)
    go_enter Tryz.func189, Tryz.ntmps189
    go_wp2_with fail
    · go_ret2
      exact ⟨by rw [IntKind.wrap_u64]; rfl, unhide HB⟩
    · go_ret2
      exact ⟨by rw [IntKind.wrap_u64]; rfl, unhide HB⟩
end Go.Proofs.YtjoonmpjcophnaaGreatDoor
