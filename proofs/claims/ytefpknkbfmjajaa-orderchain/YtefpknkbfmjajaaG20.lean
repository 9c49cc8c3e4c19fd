/- Bits, Ends, Ref, Open, Close, Float, PackB, PlusB, SumB, SumC, SumD, OrdA, Number. -/
import Derived.Test.YtefpknkbfmjajaaG01
import Derived.Test.YtefpknkbfmjajaaG04
import Derived.Test.YtefpknkbfmjajaaG06
import Derived.Test.YtefpknkbfmjajaaG09
import Derived.Shelf.Spec.BitsCarry
import Derived.Handy
import Derived.ProofKit
import Derived.Lib.SmallJoins
namespace Go.Proofs.Ytefpknkbfmjajaa
open Go.RowKit

theorem or_sum (k : Nat) (X Y : Int) (h0 : 0 ≤ X) (h1 : X < 18446744073709551616) (hm : X % ((2 ^ k : Nat) : Int) = 0) (y0 : 0 ≤ Y) (y1 : Y < ((2 ^ k : Nat) : Int)) (hk : k ≤ 63) : bits .or .u64 X Y = X + Y := by
  obtain ⟨A, rfl⟩ := Int.eq_ofNat_of_zero_le h0
  obtain ⟨B, rfl⟩ := Int.eq_ofNat_of_zero_le y0
  have hp : 2 ^ k ≤ 2 ^ 63 := Nat.pow_le_pow_right (by omega) hk
  rw [← Int.natCast_emod] at hm
  rw [Go.bits_or_u64_nat A B (by omega) (by omega), Go.nat_join k A B (by omega) (by omega), Int.natCast_add]
theorem or_sum' (k : Nat) (X Y : Int) (h0 : 0 ≤ X) (h1 : X < 18446744073709551616) (hm : X % ((2 ^ k : Nat) : Int) = 0) (y0 : 0 ≤ Y) (y1 : Y < ((2 ^ k : Nat) : Int)) (hk : k ≤ 63) : bits .or .u64 Y X = Y + X := by
  obtain ⟨A, rfl⟩ := Int.eq_ofNat_of_zero_le h0
  obtain ⟨B, rfl⟩ := Int.eq_ofNat_of_zero_le y0
  have hp : 2 ^ k ≤ 2 ^ 63 := Nat.pow_le_pow_right (by omega) hk
  rw [← Int.natCast_emod] at hm
  rw [Go.bits_or_u64_nat B A (by omega) (by omega), Nat.or_comm, Go.nat_join k A B (by omega) (by omega), Int.natCast_add, Int.add_comm]

theorem cells5 {W w1 : World} {v0 v1 v2 v3 v4 : Value} {t : TypeId} (hb : Below (W.alloc (.cells #[v0, v1, v2, v3, v4] t)).heap.size (W.alloc (.cells #[v0, v1, v2, v3, v4] t)) w1) : At5 W.heap.size v0 v1 v2 v3 v4 w1 :=
  At5.below (w := W.alloc (.cells #[v0, v1, v2, v3, v4] t)) (by unfold At5; simp [go_sem]) hb
set_option maxHeartbeats 1000000 in
theorem bits_no (n : Bool) (x y : Int) (W : World) :
    Calls Try.prog 53 #[.agg #[.int .i64 0, .int .i64 0, .bool n, .int .u64 x, .int .u64 y]] W fun r W' => r = .returned (.int .u64 0) ∧ Below W.heap.size W W' := by
  go_enter Try.func53, Try.ntmps53
  go_wp2_with fail
  refine (known_any 0 0 _).mono ?_
  rintro _ w1 ⟨rfl, hb1⟩
  go_wp2_with fail
  go_ret
  exact ⟨rfl, bthen (below1 _ _) hb1⟩

set_option maxHeartbeats 2000000 in
theorem bits_32p (x y : Int) (W : World) (x0 : 0 ≤ x) (x1 : x < 256) (y0 : 0 ≤ y) (y1 : y < 8388608) :
    Calls Try.prog 53 #[.agg #[.int .i64 8, .int .i64 23, .bool false, .int .u64 x, .int .u64 y]] W fun r W' => r = .returned (.int .u64 (x * 8388608 + y)) ∧ Below W.heap.size W W' := by
  have k1 : IntKind.u64.wrap (x * 8388608) = x * 8388608 := by rw [IntKind.wrap_u64]; omega
  have o1 : bits .or .u64 (x * 8388608) y = x * 8388608 + y := or_sum 23 _ _ (by omega) (by omega) (by omega) (by omega) (by omega) (by omega)
  clear x0 x1 y0 y1
  go_enter Try.func53, Try.ntmps53
  go_wp2_with fail
  refine (known_any 8 23 _).mono ?_
  rintro _ w1 ⟨rfl, hb1⟩
  obtain ⟨q0, q1, q2, q3, q4⟩ := cells5 hb1
  have HB := hide (bthen (below1 _ _) hb1)
  clear hb1
  go_wp2_with fail
  refine wp_region_held_drew (S := fun w' => w'.cell? ⟨W.heap.size, 0, none⟩ = some (.int .i64 8) ∧ w'.cell? ⟨W.heap.size, 1, none⟩ = some (.int .i64 23) ∧ w'.cell? ⟨W.heap.size, 2, none⟩ = some (.bool false) ∧ w'.cell? ⟨W.heap.size, 3, none⟩ = some (.int .u64 x) ∧ w'.cell? ⟨W.heap.size, 4, none⟩ = some (.int .u64 y)) (by kernel_rfl) ?_ (fun hHeld => ?_)
  · (try dsimp only)
    simp [go_sem, q0, q1, q2, q3, q4]
  refine lst0 10 (by kernel_rfl) ?_
  refine tkH 0 8 1 ?v0 rfl (by kernel_rfl) (by kernel_rfl) (fun _ _ _ h => h) (by assumption) (Or.inl ⟨by rfl, ?y0⟩) ?_
  case y0 => ((intro w hSw; (try dsimp only at hSw); go_simp) <;> with_reducible rfl)
  (try simp only [Act.put, List.setIfInBounds_toArray, List.set_cons_zero, List.set_cons_succ])
  refine tkH 1 9 3 ?v1 rfl (by kernel_rfl) (by kernel_rfl) (fun _ _ _ h => h) (by assumption) (Or.inl ⟨by rfl, ?y1⟩) ?_
  case y1 => ((intro w hSw; (try dsimp only at hSw); go_simp) <;> with_reducible rfl)
  (try simp only [Act.put, List.setIfInBounds_toArray, List.set_cons_zero, List.set_cons_succ])
  refine tkH 2 10 7 ?v2 rfl (by kernel_rfl) (by kernel_rfl) (fun _ _ _ h => h) (by assumption) (Or.inl ⟨by rfl, ?y2⟩) ?_
  case y2 => ((intro w hSw; (try dsimp only at hSw); go_simp) <;> with_reducible rfl)
  (try simp only [Act.put, List.setIfInBounds_toArray, List.set_cons_zero, List.set_cons_succ])
  refine tkH 3 11 15 ?v3 rfl (by kernel_rfl) (by kernel_rfl) (fun _ _ _ h => h) (by assumption) (Or.inl ⟨by rfl, ?y3⟩) ?_
  case y3 => ((intro w hSw; (try dsimp only at hSw); go_simp) <;> with_reducible rfl)
  (try simp only [Act.put, List.setIfInBounds_toArray, List.set_cons_zero, List.set_cons_succ])
  refine tkH 4 12 31 ?v4 rfl (by kernel_rfl) (by kernel_rfl) (fun _ _ _ h => h) (by assumption) (Or.inl ⟨by rfl, ?y4⟩) ?_
  case y4 => ((intro w hSw; (try dsimp only at hSw); go_simp) <;> with_reducible rfl)
  (try simp only [Act.put, List.setIfInBounds_toArray, List.set_cons_zero, List.set_cons_succ])
  refine tkH 5 13 63 ?v5 rfl (by kernel_rfl) (by kernel_rfl) (fun _ _ _ h => h) (by assumption) (Or.inl ⟨by rfl, ?y5⟩) ?_
  case y5 => ((intro w hSw; (try dsimp only at hSw); go_simp) <;> with_reducible rfl)
  (try simp only [Act.put, List.setIfInBounds_toArray, List.set_cons_zero, List.set_cons_succ])
  refine tkH 6 14 127 ?v6 rfl (by kernel_rfl) (by kernel_rfl) (fun _ _ _ h => h) (by assumption) (Or.inl ⟨by rfl, ?y6⟩) ?_
  case y6 => ((intro w hSw; (try dsimp only at hSw); go_simp) <;> with_reducible rfl)
  (try simp only [Act.put, List.setIfInBounds_toArray, List.set_cons_zero, List.set_cons_succ])
  refine tkH 7 15 255 ?v7 rfl (by kernel_rfl) (by kernel_rfl) (fun _ _ _ h => h) (by assumption) (Or.inl ⟨by rfl, ?y7⟩) ?_
  case y7 => ((intro w hSw; (try dsimp only at hSw); go_simp) <;> with_reducible rfl)
  (try simp only [Act.put, List.setIfInBounds_toArray, List.set_cons_zero, List.set_cons_succ])
  refine tkH 8 16 511 ?v8 rfl (by kernel_rfl) (by kernel_rfl) (fun _ _ _ h => h) (by assumption) (Or.inl ⟨by rfl, ?y8⟩) ?_
  case y8 => ((intro w hSw; (try dsimp only at hSw); go_simp) <;> with_reducible rfl)
  (try simp only [Act.put, List.setIfInBounds_toArray, List.set_cons_zero, List.set_cons_succ])
  refine tkH 9 3 1023 ?v9 rfl (by kernel_rfl) (by kernel_rfl) (fun _ _ _ h => h) (by assumption) (Or.inl ⟨by rfl, ?y9⟩) ?_
  case y9 => ((intro w hSw; (try dsimp only at hSw); go_simp) <;> with_reducible rfl)
  (try simp only [Act.put, List.setIfInBounds_toArray, List.set_cons_zero, List.set_cons_succ])
  refine wpAnyH_done (by kernel_rfl) ?_ _
  go_wp2_with fail
  go_ret
  exact ⟨rfl, (unhide HB).drew⟩

set_option maxHeartbeats 2000000 in
theorem bits_32m (x y : Int) (W : World) (x0 : 0 ≤ x) (x1 : x < 256) (y0 : 0 ≤ y) (y1 : y < 8388608) :
    Calls Try.prog 53 #[.agg #[.int .i64 8, .int .i64 23, .bool true, .int .u64 x, .int .u64 y]] W fun r W' => r = .returned (.int .u64 (x * 8388608 + y + 2147483648)) ∧ Below W.heap.size W W' := by
  have k1 : IntKind.u64.wrap (x * 8388608) = x * 8388608 := by rw [IntKind.wrap_u64]; omega
  have o1 : bits .or .u64 (x * 8388608) y = x * 8388608 + y := or_sum 23 _ _ (by omega) (by omega) (by omega) (by omega) (by omega) (by omega)
  have k2 : IntKind.i64.wrap 31 = 31 := by decide +kernel
  have o2 : bits .or .u64 (x * 8388608 + y) 2147483648 = x * 8388608 + y + 2147483648 := or_sum' 31 _ _ (by omega) (by omega) (by omega) (by omega) (by omega) (by omega)
  clear x0 x1 y0 y1
  go_enter Try.func53, Try.ntmps53
  go_wp2_with fail
  refine (known_any 8 23 _).mono ?_
  rintro _ w1 ⟨rfl, hb1⟩
  obtain ⟨q0, q1, q2, q3, q4⟩ := cells5 hb1
  have HB := hide (bthen (below1 _ _) hb1)
  clear hb1
  go_wp2_with fail
  refine wp_region_held_drew (S := fun w' => w'.cell? ⟨W.heap.size, 0, none⟩ = some (.int .i64 8) ∧ w'.cell? ⟨W.heap.size, 1, none⟩ = some (.int .i64 23) ∧ w'.cell? ⟨W.heap.size, 2, none⟩ = some (.bool true) ∧ w'.cell? ⟨W.heap.size, 3, none⟩ = some (.int .u64 x) ∧ w'.cell? ⟨W.heap.size, 4, none⟩ = some (.int .u64 y)) (by kernel_rfl) ?_ (fun hHeld => ?_)
  · (try dsimp only)
    simp [go_sem, q0, q1, q2, q3, q4]
  refine lst0 10 (by kernel_rfl) ?_
  refine tkH 0 8 1 ?v0 rfl (by kernel_rfl) (by kernel_rfl) (fun _ _ _ h => h) (by assumption) (Or.inl ⟨by rfl, ?y0⟩) ?_
  case y0 => ((intro w hSw; (try dsimp only at hSw); go_simp) <;> with_reducible rfl)
  (try simp only [Act.put, List.setIfInBounds_toArray, List.set_cons_zero, List.set_cons_succ])
  refine tkH 1 9 3 ?v1 rfl (by kernel_rfl) (by kernel_rfl) (fun _ _ _ h => h) (by assumption) (Or.inl ⟨by rfl, ?y1⟩) ?_
  case y1 => ((intro w hSw; (try dsimp only at hSw); go_simp) <;> with_reducible rfl)
  (try simp only [Act.put, List.setIfInBounds_toArray, List.set_cons_zero, List.set_cons_succ])
  refine tkH 2 10 7 ?v2 rfl (by kernel_rfl) (by kernel_rfl) (fun _ _ _ h => h) (by assumption) (Or.inl ⟨by rfl, ?y2⟩) ?_
  case y2 => ((intro w hSw; (try dsimp only at hSw); go_simp) <;> with_reducible rfl)
  (try simp only [Act.put, List.setIfInBounds_toArray, List.set_cons_zero, List.set_cons_succ])
  refine tkH 3 11 15 ?v3 rfl (by kernel_rfl) (by kernel_rfl) (fun _ _ _ h => h) (by assumption) (Or.inl ⟨by rfl, ?y3⟩) ?_
  case y3 => ((intro w hSw; (try dsimp only at hSw); go_simp) <;> with_reducible rfl)
  (try simp only [Act.put, List.setIfInBounds_toArray, List.set_cons_zero, List.set_cons_succ])
  refine tkH 4 12 31 ?v4 rfl (by kernel_rfl) (by kernel_rfl) (fun _ _ _ h => h) (by assumption) (Or.inl ⟨by rfl, ?y4⟩) ?_
  case y4 => ((intro w hSw; (try dsimp only at hSw); go_simp) <;> with_reducible rfl)
  (try simp only [Act.put, List.setIfInBounds_toArray, List.set_cons_zero, List.set_cons_succ])
  refine tkH 5 13 63 ?v5 rfl (by kernel_rfl) (by kernel_rfl) (fun _ _ _ h => h) (by assumption) (Or.inl ⟨by rfl, ?y5⟩) ?_
  case y5 => ((intro w hSw; (try dsimp only at hSw); go_simp) <;> with_reducible rfl)
  (try simp only [Act.put, List.setIfInBounds_toArray, List.set_cons_zero, List.set_cons_succ])
  refine tkH 6 14 127 ?v6 rfl (by kernel_rfl) (by kernel_rfl) (fun _ _ _ h => h) (by assumption) (Or.inl ⟨by rfl, ?y6⟩) ?_
  case y6 => ((intro w hSw; (try dsimp only at hSw); go_simp) <;> with_reducible rfl)
  (try simp only [Act.put, List.setIfInBounds_toArray, List.set_cons_zero, List.set_cons_succ])
  refine tkH 7 15 255 ?v7 rfl (by kernel_rfl) (by kernel_rfl) (fun _ _ _ h => h) (by assumption) (Or.inl ⟨by rfl, ?y7⟩) ?_
  case y7 => ((intro w hSw; (try dsimp only at hSw); go_simp) <;> with_reducible rfl)
  (try simp only [Act.put, List.setIfInBounds_toArray, List.set_cons_zero, List.set_cons_succ])
  refine tkH 8 16 511 ?v8 rfl (by kernel_rfl) (by kernel_rfl) (fun _ _ _ h => h) (by assumption) (Or.inl ⟨by rfl, ?y8⟩) ?_
  case y8 => ((intro w hSw; (try dsimp only at hSw); go_simp) <;> with_reducible rfl)
  (try simp only [Act.put, List.setIfInBounds_toArray, List.set_cons_zero, List.set_cons_succ])
  refine tkH 9 3 1023 ?v9 rfl (by kernel_rfl) (by kernel_rfl) (fun _ _ _ h => h) (by assumption) (Or.inl ⟨by rfl, ?y9⟩) ?_
  case y9 => ((intro w hSw; (try dsimp only at hSw); go_simp) <;> with_reducible rfl)
  (try simp only [Act.put, List.setIfInBounds_toArray, List.set_cons_zero, List.set_cons_succ])
  refine wpAnyH_done (by kernel_rfl) ?_ _
  go_wp2_with fail
  go_ret
  exact ⟨rfl, (unhide HB).drew⟩

set_option maxHeartbeats 2000000 in
theorem bits_64p (x y : Int) (W : World) (x0 : 0 ≤ x) (x1 : x < 2048) (y0 : 0 ≤ y) (y1 : y < 4503599627370496) :
    Calls Try.prog 53 #[.agg #[.int .i64 11, .int .i64 52, .bool false, .int .u64 x, .int .u64 y]] W fun r W' => r = .returned (.int .u64 (x * 4503599627370496 + y)) ∧ Below W.heap.size W W' := by
  have k1 : IntKind.u64.wrap (x * 4503599627370496) = x * 4503599627370496 := by rw [IntKind.wrap_u64]; omega
  have o1 : bits .or .u64 (x * 4503599627370496) y = x * 4503599627370496 + y := or_sum 52 _ _ (by omega) (by omega) (by omega) (by omega) (by omega) (by omega)
  clear x0 x1 y0 y1
  go_enter Try.func53, Try.ntmps53
  go_wp2_with fail
  refine (known_any 11 52 _).mono ?_
  rintro _ w1 ⟨rfl, hb1⟩
  obtain ⟨q0, q1, q2, q3, q4⟩ := cells5 hb1
  have HB := hide (bthen (below1 _ _) hb1)
  clear hb1
  go_wp2_with fail
  refine wp_region_held_drew (S := fun w' => w'.cell? ⟨W.heap.size, 0, none⟩ = some (.int .i64 11) ∧ w'.cell? ⟨W.heap.size, 1, none⟩ = some (.int .i64 52) ∧ w'.cell? ⟨W.heap.size, 2, none⟩ = some (.bool false) ∧ w'.cell? ⟨W.heap.size, 3, none⟩ = some (.int .u64 x) ∧ w'.cell? ⟨W.heap.size, 4, none⟩ = some (.int .u64 y)) (by kernel_rfl) ?_ (fun hHeld => ?_)
  · (try dsimp only)
    simp [go_sem, q0, q1, q2, q3, q4]
  refine lst0 10 (by kernel_rfl) ?_
  refine tkH 0 8 1 ?v0 rfl (by kernel_rfl) (by kernel_rfl) (fun _ _ _ h => h) (by assumption) (Or.inl ⟨by rfl, ?y0⟩) ?_
  case y0 => ((intro w hSw; (try dsimp only at hSw); go_simp) <;> with_reducible rfl)
  (try simp only [Act.put, List.setIfInBounds_toArray, List.set_cons_zero, List.set_cons_succ])
  refine tkH 1 9 3 ?v1 rfl (by kernel_rfl) (by kernel_rfl) (fun _ _ _ h => h) (by assumption) (Or.inl ⟨by rfl, ?y1⟩) ?_
  case y1 => ((intro w hSw; (try dsimp only at hSw); go_simp) <;> with_reducible rfl)
  (try simp only [Act.put, List.setIfInBounds_toArray, List.set_cons_zero, List.set_cons_succ])
  refine tkH 2 10 7 ?v2 rfl (by kernel_rfl) (by kernel_rfl) (fun _ _ _ h => h) (by assumption) (Or.inl ⟨by rfl, ?y2⟩) ?_
  case y2 => ((intro w hSw; (try dsimp only at hSw); go_simp) <;> with_reducible rfl)
  (try simp only [Act.put, List.setIfInBounds_toArray, List.set_cons_zero, List.set_cons_succ])
  refine tkH 3 11 15 ?v3 rfl (by kernel_rfl) (by kernel_rfl) (fun _ _ _ h => h) (by assumption) (Or.inl ⟨by rfl, ?y3⟩) ?_
  case y3 => ((intro w hSw; (try dsimp only at hSw); go_simp) <;> with_reducible rfl)
  (try simp only [Act.put, List.setIfInBounds_toArray, List.set_cons_zero, List.set_cons_succ])
  refine tkH 4 12 31 ?v4 rfl (by kernel_rfl) (by kernel_rfl) (fun _ _ _ h => h) (by assumption) (Or.inl ⟨by rfl, ?y4⟩) ?_
  case y4 => ((intro w hSw; (try dsimp only at hSw); go_simp) <;> with_reducible rfl)
  (try simp only [Act.put, List.setIfInBounds_toArray, List.set_cons_zero, List.set_cons_succ])
  refine tkH 5 13 63 ?v5 rfl (by kernel_rfl) (by kernel_rfl) (fun _ _ _ h => h) (by assumption) (Or.inl ⟨by rfl, ?y5⟩) ?_
  case y5 => ((intro w hSw; (try dsimp only at hSw); go_simp) <;> with_reducible rfl)
  (try simp only [Act.put, List.setIfInBounds_toArray, List.set_cons_zero, List.set_cons_succ])
  refine tkH 6 14 127 ?v6 rfl (by kernel_rfl) (by kernel_rfl) (fun _ _ _ h => h) (by assumption) (Or.inl ⟨by rfl, ?y6⟩) ?_
  case y6 => ((intro w hSw; (try dsimp only at hSw); go_simp) <;> with_reducible rfl)
  (try simp only [Act.put, List.setIfInBounds_toArray, List.set_cons_zero, List.set_cons_succ])
  refine tkH 7 15 255 ?v7 rfl (by kernel_rfl) (by kernel_rfl) (fun _ _ _ h => h) (by assumption) (Or.inl ⟨by rfl, ?y7⟩) ?_
  case y7 => ((intro w hSw; (try dsimp only at hSw); go_simp) <;> with_reducible rfl)
  (try simp only [Act.put, List.setIfInBounds_toArray, List.set_cons_zero, List.set_cons_succ])
  refine tkH 8 16 511 ?v8 rfl (by kernel_rfl) (by kernel_rfl) (fun _ _ _ h => h) (by assumption) (Or.inl ⟨by rfl, ?y8⟩) ?_
  case y8 => ((intro w hSw; (try dsimp only at hSw); go_simp) <;> with_reducible rfl)
  (try simp only [Act.put, List.setIfInBounds_toArray, List.set_cons_zero, List.set_cons_succ])
  refine tkH 9 3 1023 ?v9 rfl (by kernel_rfl) (by kernel_rfl) (fun _ _ _ h => h) (by assumption) (Or.inl ⟨by rfl, ?y9⟩) ?_
  case y9 => ((intro w hSw; (try dsimp only at hSw); go_simp) <;> with_reducible rfl)
  (try simp only [Act.put, List.setIfInBounds_toArray, List.set_cons_zero, List.set_cons_succ])
  refine wpAnyH_done (by kernel_rfl) ?_ _
  go_wp2_with fail
  go_ret
  exact ⟨rfl, (unhide HB).drew⟩

set_option maxHeartbeats 2000000 in
theorem bits_64m (x y : Int) (W : World) (x0 : 0 ≤ x) (x1 : x < 2048) (y0 : 0 ≤ y) (y1 : y < 4503599627370496) :
    Calls Try.prog 53 #[.agg #[.int .i64 11, .int .i64 52, .bool true, .int .u64 x, .int .u64 y]] W fun r W' => r = .returned (.int .u64 (x * 4503599627370496 + y + 9223372036854775808)) ∧ Below W.heap.size W W' := by
  have k1 : IntKind.u64.wrap (x * 4503599627370496) = x * 4503599627370496 := by rw [IntKind.wrap_u64]; omega
  have o1 : bits .or .u64 (x * 4503599627370496) y = x * 4503599627370496 + y := or_sum 52 _ _ (by omega) (by omega) (by omega) (by omega) (by omega) (by omega)
  have k2 : IntKind.i64.wrap 63 = 63 := by decide +kernel
  have o2 : bits .or .u64 (x * 4503599627370496 + y) 9223372036854775808 = x * 4503599627370496 + y + 9223372036854775808 := or_sum' 63 _ _ (by omega) (by omega) (by omega) (by omega) (by omega) (by omega)
  clear x0 x1 y0 y1
  go_enter Try.func53, Try.ntmps53
  go_wp2_with fail
  refine (known_any 11 52 _).mono ?_
  rintro _ w1 ⟨rfl, hb1⟩
  obtain ⟨q0, q1, q2, q3, q4⟩ := cells5 hb1
  have HB := hide (bthen (below1 _ _) hb1)
  clear hb1
  go_wp2_with fail
  refine wp_region_held_drew (S := fun w' => w'.cell? ⟨W.heap.size, 0, none⟩ = some (.int .i64 11) ∧ w'.cell? ⟨W.heap.size, 1, none⟩ = some (.int .i64 52) ∧ w'.cell? ⟨W.heap.size, 2, none⟩ = some (.bool true) ∧ w'.cell? ⟨W.heap.size, 3, none⟩ = some (.int .u64 x) ∧ w'.cell? ⟨W.heap.size, 4, none⟩ = some (.int .u64 y)) (by kernel_rfl) ?_ (fun hHeld => ?_)
  · (try dsimp only)
    simp [go_sem, q0, q1, q2, q3, q4]
  refine lst0 10 (by kernel_rfl) ?_
  refine tkH 0 8 1 ?v0 rfl (by kernel_rfl) (by kernel_rfl) (fun _ _ _ h => h) (by assumption) (Or.inl ⟨by rfl, ?y0⟩) ?_
  case y0 => ((intro w hSw; (try dsimp only at hSw); go_simp) <;> with_reducible rfl)
  (try simp only [Act.put, List.setIfInBounds_toArray, List.set_cons_zero, List.set_cons_succ])
  refine tkH 1 9 3 ?v1 rfl (by kernel_rfl) (by kernel_rfl) (fun _ _ _ h => h) (by assumption) (Or.inl ⟨by rfl, ?y1⟩) ?_
  case y1 => ((intro w hSw; (try dsimp only at hSw); go_simp) <;> with_reducible rfl)
  (try simp only [Act.put, List.setIfInBounds_toArray, List.set_cons_zero, List.set_cons_succ])
  refine tkH 2 10 7 ?v2 rfl (by kernel_rfl) (by kernel_rfl) (fun _ _ _ h => h) (by assumption) (Or.inl ⟨by rfl, ?y2⟩) ?_
  case y2 => ((intro w hSw; (try dsimp only at hSw); go_simp) <;> with_reducible rfl)
  (try simp only [Act.put, List.setIfInBounds_toArray, List.set_cons_zero, List.set_cons_succ])
  refine tkH 3 11 15 ?v3 rfl (by kernel_rfl) (by kernel_rfl) (fun _ _ _ h => h) (by assumption) (Or.inl ⟨by rfl, ?y3⟩) ?_
  case y3 => ((intro w hSw; (try dsimp only at hSw); go_simp) <;> with_reducible rfl)
  (try simp only [Act.put, List.setIfInBounds_toArray, List.set_cons_zero, List.set_cons_succ])
  refine tkH 4 12 31 ?v4 rfl (by kernel_rfl) (by kernel_rfl) (fun _ _ _ h => h) (by assumption) (Or.inl ⟨by rfl, ?y4⟩) ?_
  case y4 => ((intro w hSw; (try dsimp only at hSw); go_simp) <;> with_reducible rfl)
  (try simp only [Act.put, List.setIfInBounds_toArray, List.set_cons_zero, List.set_cons_succ])
  refine tkH 5 13 63 ?v5 rfl (by kernel_rfl) (by kernel_rfl) (fun _ _ _ h => h) (by assumption) (Or.inl ⟨by rfl, ?y5⟩) ?_
  case y5 => ((intro w hSw; (try dsimp only at hSw); go_simp) <;> with_reducible rfl)
  (try simp only [Act.put, List.setIfInBounds_toArray, List.set_cons_zero, List.set_cons_succ])
  refine tkH 6 14 127 ?v6 rfl (by kernel_rfl) (by kernel_rfl) (fun _ _ _ h => h) (by assumption) (Or.inl ⟨by rfl, ?y6⟩) ?_
  case y6 => ((intro w hSw; (try dsimp only at hSw); go_simp) <;> with_reducible rfl)
  (try simp only [Act.put, List.setIfInBounds_toArray, List.set_cons_zero, List.set_cons_succ])
  refine tkH 7 15 255 ?v7 rfl (by kernel_rfl) (by kernel_rfl) (fun _ _ _ h => h) (by assumption) (Or.inl ⟨by rfl, ?y7⟩) ?_
  case y7 => ((intro w hSw; (try dsimp only at hSw); go_simp) <;> with_reducible rfl)
  (try simp only [Act.put, List.setIfInBounds_toArray, List.set_cons_zero, List.set_cons_succ])
  refine tkH 8 16 511 ?v8 rfl (by kernel_rfl) (by kernel_rfl) (fun _ _ _ h => h) (by assumption) (Or.inl ⟨by rfl, ?y8⟩) ?_
  case y8 => ((intro w hSw; (try dsimp only at hSw); go_simp) <;> with_reducible rfl)
  (try simp only [Act.put, List.setIfInBounds_toArray, List.set_cons_zero, List.set_cons_succ])
  refine tkH 9 3 1023 ?v9 rfl (by kernel_rfl) (by kernel_rfl) (fun _ _ _ h => h) (by assumption) (Or.inl ⟨by rfl, ?y9⟩) ?_
  case y9 => ((intro w hSw; (try dsimp only at hSw); go_simp) <;> with_reducible rfl)
  (try simp only [Act.put, List.setIfInBounds_toArray, List.set_cons_zero, List.set_cons_succ])
  refine wpAnyH_done (by kernel_rfl) ?_ _
  go_wp2_with fail
  go_ret
  exact ⟨rfl, (unhide HB).drew⟩

end Go.Proofs.Ytefpknkbfmjajaa
namespace Go.Proofs.Ytefpknkbfmjajaa
open Go.RowKit

/-- A float of its fields; 0 of what is no width. -/
def put (f P Q : Int) (n : Bool) (x y : Int) : Int := if f = 0 then 0 else x * P + y + (if n then P * Q else 0)
/-- The sign's bit of a float. -/
def sg (P Q x : Int) : Bool := x / (P * Q) % 2 == 1

theorem take_any {w e f P Q b : Int} (x : Int) (h : Wd w e f P Q b) (W : World) (h0 : 0 ≤ x) (h1 : x < 18446744073709551616) :
    Calls Try.prog 48 #[.int .i64 w, .int .u64 x] W fun r W' => r = .returned (.agg #[.int .i64 e, .int .i64 f, .bool (sg P Q x), .int .u64 (x / P % Q), .int .u64 (x % P)]) ∧ Below W.heap.size W W' := by
  unfold sg
  rcases h with ⟨rfl, rfl, rfl, rfl, rfl, rfl⟩ | ⟨rfl, rfl, rfl, rfl, rfl, rfl⟩ | ⟨hw, rfl, rfl, rfl, rfl, rfl⟩
  · exact take_32 x W h0 h1
  · exact take_64 x W h0 h1
  · rw [Int.emod_one, Int.emod_one, Int.mul_one, Int.ediv_one]
    exact take_no w x W h0 h1 hw

theorem bits_any {e f P Q b : Int} (n : Bool) (x y : Int) (h : Sz e f P Q b) (W : World) (x0 : 0 ≤ x) (x1 : x < Q) (y0 : 0 ≤ y) (y1 : y < P) :
    Calls Try.prog 53 #[.agg #[.int .i64 e, .int .i64 f, .bool n, .int .u64 x, .int .u64 y]] W fun r W' => r = .returned (.int .u64 (put f P Q n x y)) ∧ Below W.heap.size W W' := by
  unfold put
  rcases h with ⟨rfl, rfl, rfl, rfl, rfl⟩ | ⟨rfl, rfl, rfl, rfl, rfl⟩ | ⟨rfl, rfl, rfl, rfl, rfl⟩
  · cases n
    · simpa using bits_32p x y W x0 x1 y0 y1
    · simpa using bits_32m x y W x0 x1 y0 y1
  · cases n
    · simpa using bits_64p x y W x0 x1 y0 y1
    · simpa using bits_64m x y W x0 x1 y0 y1
  · simpa using bits_no n x y W

theorem Sz.pos {e f P Q b : Int} (h : Sz e f P Q b) : 1 ≤ P ∧ P ≤ 4503599627370496 ∧ 1 ≤ Q ∧ Q ≤ 2048 := by rcases h with h | h | h <;> omega
theorem exp_in {Q : Int} (z : Int) (h : 1 ≤ Q) : 0 ≤ z % Q ∧ z % Q < Q := ⟨Int.emod_nonneg _ (by omega), Int.emod_lt_of_pos _ (by omega)⟩

/-- The lowest bits of a float's width. -/
def cutN (f P Q x : Int) : Int := if f = 0 then 0 else x % (2 * (P * Q))
theorem cut_put {e f P Q b : Int} (h : Sz e f P Q b) (x : Int) : put f P Q (sg P Q x) (x / P % Q) (x % P) = cutN f P Q x := by
  unfold put cutN sg
  rcases h with ⟨rfl, rfl, rfl, rfl, rfl⟩ | ⟨rfl, rfl, rfl, rfl, rfl⟩ | ⟨rfl, rfl, rfl, rfl, rfl⟩
  · show (if (23 : Int) = 0 then (0 : Int) else x / 8388608 % 256 * 8388608 + x % 8388608 + (if (x / 2147483648 % 2 == 1) = true then 2147483648 else 0)) = if (23 : Int) = 0 then 0 else x % 4294967296
    rw [if_neg (show ¬ (23 : Int) = 0 by decide), if_neg (show ¬ (23 : Int) = 0 by decide)]
    by_cases hn : x / 2147483648 % 2 = 1
    · rw [if_pos (by rw [hn]; rfl)]; omega
    · rw [if_neg (by simp [hn])]; omega
  · show (if (52 : Int) = 0 then (0 : Int) else x / 4503599627370496 % 2048 * 4503599627370496 + x % 4503599627370496 + (if (x / 9223372036854775808 % 2 == 1) = true then 9223372036854775808 else 0)) = if (52 : Int) = 0 then 0 else x % 18446744073709551616
    rw [if_neg (show ¬ (52 : Int) = 0 by decide), if_neg (show ¬ (52 : Int) = 0 by decide)]
    by_cases hn : x / 9223372036854775808 % 2 = 1
    · rw [if_pos (by rw [hn]; rfl)]; omega
    · rw [if_neg (by simp [hn])]; omega
  · rfl

set_option maxHeartbeats 1000000 in
theorem cut_any {w e f P Q b : Int} (x : Int) (h : Wd w e f P Q b) (W : World) (h0 : 0 ≤ x) (h1 : x < 18446744073709551616) :
    Calls Try.prog 23 #[.int .i64 w, .int .u64 x] W fun r W' => r = .returned (.int .u64 (cutN f P Q x)) ∧ Below W.heap.size W W' := by
  obtain ⟨p1, p2, p3, p4⟩ := h.sz.pos
  have E := exp_in (x / P) p3
  have F := exp_in x p1
  have HT := hide (fun W => take_any x h W h0 h1)
  have HC := hide (fun W => bits_any (sg P Q x) _ _ h.sz W E.1 E.2 F.1 F.2)
  have HE := hide (cut_put h.sz x)
  clear h0 h1 p1 p2 p3 p4 E F h
  generalize sg P Q x = n at *
  generalize x / P % Q = y at *
  generalize x % P = z at *
  go_enter Try.func23, Try.ntmps23
  go_wp2_with fail
  refine (unhide HT _).mono ?_
  rintro _ w1 ⟨rfl, hb1⟩
  go_wp2_with fail
  refine (unhide HC _).mono ?_
  rintro _ w2 ⟨rfl, hb2⟩
  go_wp2_with fail
  go_ret
  exact ⟨ret1 (unhide HE), bthen hb1 hb2⟩

set_option maxHeartbeats 1000000 in
theorem isNanW_any {w e f P Q b : Int} (x : Int) (h : Wd w e f P Q b) (W : World) (h0 : 0 ≤ x) (h1 : x < 18446744073709551616) :
    Calls Try.prog 21 #[.int .i64 w, .int .u64 x] W fun r W' => r = .returned (.bool (x / P % Q == Q - 1 && x % P != 0)) ∧ Below W.heap.size W W' := by
  have HT := hide (fun W => take_any x h W h0 h1)
  have HC := hide (fun W => isNan_any (sg P Q x) (x / P % Q) (x % P) h.sz W)
  clear h0 h1 h
  generalize sg P Q x = n at *
  generalize x / P % Q = y at *
  generalize x % P = z at *
  go_enter Try.func21, Try.ntmps21
  go_wp2_with fail
  refine (unhide HT _).mono ?_
  rintro _ w1 ⟨rfl, hb1⟩
  go_wp2_with fail
  refine (unhide HC _).mono ?_
  rintro _ w2 ⟨rfl, hb2⟩
  go_wp2_with fail
  go_ret
  exact ⟨rfl, bthen hb1 hb2⟩

set_option maxHeartbeats 1000000 in
theorem zero_any {w e f P Q b : Int} (n : Bool) (h : Wd w e f P Q b) (W : World) :
    Calls Try.prog 38 #[.int .i64 w, .bool n] W fun r W' => r = .returned (.int .u64 (put f P Q n 0 0)) ∧ Below W.heap.size W W' := by
  obtain ⟨p1, p2, p3, p4⟩ := h.sz.pos
  have HC := hide (fun W => bits_any n 0 0 h.sz W (by omega) (by omega) (by omega) (by omega))
  go_enter Try.func38, Try.ntmps38
  go_wp2_with fail
  refine (sizesOf_any h _).mono ?_
  rintro _ w1 ⟨rfl, hb1⟩
  go_wp2_with fail
  refine (unhide HC _).mono ?_
  rintro _ w2 ⟨rfl, hb2⟩
  go_wp2_with fail
  go_ret
  exact ⟨rfl, bthen hb1 hb2⟩

set_option maxHeartbeats 2000000 in
theorem nan_any {w e f P Q b : Int} (h : Wd w e f P Q b) (W : World) :
    Calls Try.prog 22 #[.int .i64 w] W fun r W' => r = .returned (.int .u64 (put f P Q false (Q - 1) (P / 2))) ∧ Below W.heap.size W W' := by
  obtain ⟨p1, p2, p3, p4⟩ := h.sz.pos
  have hs := h.sz
  have HC := hide (fun W => bits_any false (Q - 1) (P / 2) h.sz W (by omega) (by omega) (by omega) (by omega))
  clear p1 p2 p3 p4
  go_enter Try.func22, Try.ntmps22
  go_wp2_with fail
  refine (sizesOf_any h _).mono ?_
  rintro _ w1 ⟨rfl, hb1⟩
  have HB := hide (balloc hb1 (.cells #[.int .i64 e, .int .i64 f] 56)).drew
  go_wp2_with fail
  refine wp_region_held_drew (S := fun w' => w'.cell? ⟨w1.heap.size, 0, none⟩ = some (.int .i64 e) ∧ w'.cell? ⟨w1.heap.size, 1, none⟩ = some (.int .i64 f)) (by kernel_rfl) ?_ (fun hHeld => ?_)
  · (try dsimp only)
    simp [go_sem]
  refine lst0 9 (by kernel_rfl) ?_
  refine tkH 0 6 1 ?v0 rfl (by kernel_rfl) (by kernel_rfl) (fun _ _ _ h => h) (by assumption) (Or.inl ⟨by rfl, ?y0⟩) ?_
  case y0 => ((intro w hSw; (try dsimp only at hSw); go_simp) <;> with_reducible rfl)
  (try simp only [Act.put, List.setIfInBounds_toArray, List.set_cons_zero, List.set_cons_succ])
  refine tkH 1 7 3 ?v1 rfl (by kernel_rfl) (by kernel_rfl) (fun _ _ _ h => h) (by assumption) (Or.inl ⟨by rfl, ?y1⟩) ?_
  case y1 => ((intro w hSw; (try dsimp only at hSw); go_simp) <;> with_reducible rfl)
  (try simp only [Act.put, List.setIfInBounds_toArray, List.set_cons_zero, List.set_cons_succ])
  refine tkH 3 9 11 ?v3 rfl (by kernel_rfl) (by kernel_rfl) (fun _ _ _ h => h) (by assumption) (Or.inl ⟨by rfl, ?y3⟩) ?_
  case y3 => ((intro w hSw; (try dsimp only at hSw); go_simp) <;> with_reducible rfl)
  (try simp only [Act.put, List.setIfInBounds_toArray, List.set_cons_zero, List.set_cons_succ])
  refine rdH 2 15 rfl (by kernel_rfl) (by kernel_rfl) (fun Kk hKk => ?_)
  go_simp
  refine (last_any hs _).mono ?_
  rintro _ w2 ⟨rfl, hbl⟩
  have HB := hide (bthen (unhide HB) hbl)
  (try go_wp2_with fail)
  refine hKk.out _ _ ?_ (fun hHeld => ?_)
  · (try dsimp only)
    exact At2.below hHeld hbl
  clear hKk Kk
  (try simp only [List.setIfInBounds_toArray, List.set_cons_zero, List.set_cons_succ])
  refine rdH 4 31 rfl (by kernel_rfl) (by kernel_rfl) (fun Kk hKk => ?_)
  go_simp
  refine (one_any hs _).mono ?_
  rintro _ w3 ⟨rfl, hbl⟩
  have HB := hide (bthen (unhide HB) hbl)
  (try go_wp2_with fail)
  refine hKk.out _ _ ?_ (fun hHeld => ?_)
  · (try dsimp only)
    exact At2.below hHeld hbl
  clear hKk Kk
  (try simp only [List.setIfInBounds_toArray, List.set_cons_zero, List.set_cons_succ])
  refine tkH 5 11 63 ?v5 rfl (by kernel_rfl) (by kernel_rfl) (fun _ _ _ h => h) (by assumption) (Or.inl ⟨by rfl, ?y5⟩) ?_
  case y5 => ((intro w hSw; (try dsimp only at hSw); go_simp) <;> with_reducible rfl)
  (try simp only [Act.put, List.setIfInBounds_toArray, List.set_cons_zero, List.set_cons_succ])
  refine tkH 6 12 127 ?v6 rfl (by kernel_rfl) (by kernel_rfl) (fun _ _ _ h => h) (by assumption) (Or.inl ⟨by rfl, ?y6⟩) ?_
  case y6 => ((intro w hSw; (try dsimp only at hSw); go_simp) <;> with_reducible rfl)
  (try simp only [Act.put, List.setIfInBounds_toArray, List.set_cons_zero, List.set_cons_succ])
  refine rdH 7 255 rfl (by kernel_rfl) (by kernel_rfl) (fun Kk hKk => ?_)
  go_simp
  refine (unhide HC _).mono ?_
  rintro _ w4 ⟨rfl, hbl⟩
  have HB := hide (bthen (unhide HB) hbl)
  (try go_wp2_with fail)
  refine hKk.out _ _ ?_ (fun hHeld => ?_)
  · (try dsimp only)
    exact At2.below hHeld hbl
  clear hKk Kk
  (try simp only [List.setIfInBounds_toArray, List.set_cons_zero, List.set_cons_succ])
  refine tkH 8 2 511 ?v8 rfl (by kernel_rfl) (by kernel_rfl) (fun _ _ _ h => h) (by assumption) (Or.inl ⟨by rfl, ?y8⟩) ?_
  case y8 => ((intro w hSw; (try dsimp only at hSw); go_simp) <;> with_reducible rfl)
  (try simp only [Act.put, List.setIfInBounds_toArray, List.set_cons_zero, List.set_cons_succ])
  refine wpAnyH_done (by kernel_rfl) ?_ _
  go_wp2_with fail
  go_ret
  exact ⟨rfl, unhide HB⟩

set_option maxHeartbeats 1000000 in
theorem fields_any {w e f P Q b : Int} (h : Wd w e f P Q b) (W : World) :
    Calls Try.prog 54 #[.int .i64 w] W fun r W' => r = .returned (.tuple #[.int .i64 e, .int .i64 f]) ∧ Below W.heap.size W W' := by
  go_enter Try.func54, Try.ntmps54
  go_wp2_with fail
  refine (sizesOf_any h _).mono ?_
  rintro _ w1 ⟨rfl, hb1⟩
  have HB := hide (balloc hb1 (.cells #[.int .i64 e, .int .i64 f] 56)).drew
  go_wp2_with fail
  refine wp_region_held_drew (S := fun w' => w'.cell? ⟨w1.heap.size, 0, none⟩ = some (.int .i64 e) ∧ w'.cell? ⟨w1.heap.size, 1, none⟩ = some (.int .i64 f)) (by kernel_rfl) ?_ (fun hHeld => ?_)
  · (try dsimp only)
    simp [go_sem]
  refine lst0 6 (by kernel_rfl) ?_
  refine tkH 0 7 1 ?v0 rfl (by kernel_rfl) (by kernel_rfl) (fun _ _ _ h => h) (by assumption) (Or.inl ⟨by rfl, ?y0⟩) ?_
  case y0 => ((intro w hSw; (try dsimp only at hSw); go_simp) <;> with_reducible rfl)
  (try simp only [Act.put, List.setIfInBounds_toArray, List.set_cons_zero, List.set_cons_succ])
  refine tkH 1 8 3 ?v1 rfl (by kernel_rfl) (by kernel_rfl) (fun _ _ _ h => h) (by assumption) (Or.inl ⟨by rfl, ?y1⟩) ?_
  case y1 => ((intro w hSw; (try dsimp only at hSw); go_simp) <;> with_reducible rfl)
  (try simp only [Act.put, List.setIfInBounds_toArray, List.set_cons_zero, List.set_cons_succ])
  refine tkH 2 9 7 ?v2 rfl (by kernel_rfl) (by kernel_rfl) (fun _ _ _ h => h) (by assumption) (Or.inl ⟨by rfl, ?y2⟩) ?_
  case y2 => ((intro w hSw; (try dsimp only at hSw); go_simp) <;> with_reducible rfl)
  (try simp only [Act.put, List.setIfInBounds_toArray, List.set_cons_zero, List.set_cons_succ])
  refine tkH 3 10 15 ?v3 rfl (by kernel_rfl) (by kernel_rfl) (fun _ _ _ h => h) (by assumption) (Or.inl ⟨by rfl, ?y3⟩) ?_
  case y3 => ((intro w hSw; (try dsimp only at hSw); go_simp) <;> with_reducible rfl)
  (try simp only [Act.put, List.setIfInBounds_toArray, List.set_cons_zero, List.set_cons_succ])
  refine tkH 4 2 31 ?v4 rfl (by kernel_rfl) (by kernel_rfl) (fun _ _ _ h => h) (by assumption) (Or.inl ⟨by rfl, ?y4⟩) ?_
  case y4 => ((intro w hSw; (try dsimp only at hSw); go_simp) <;> with_reducible rfl)
  (try simp only [Act.put, List.setIfInBounds_toArray, List.set_cons_zero, List.set_cons_succ])
  refine tkH 5 3 63 ?v5 rfl (by kernel_rfl) (by kernel_rfl) (fun _ _ _ h => h) (by assumption) (Or.inl ⟨by rfl, ?y5⟩) ?_
  case y5 => ((intro w hSw; (try dsimp only at hSw); go_simp) <;> with_reducible rfl)
  (try simp only [Act.put, List.setIfInBounds_toArray, List.set_cons_zero, List.set_cons_succ])
  refine wpAnyH_done (by kernel_rfl) ?_ _
  go_wp2_with fail
  go_ret2
  exact ⟨rfl, unhide HB⟩

end Go.Proofs.Ytefpknkbfmjajaa
namespace Go.Proofs.Ytefpknkbfmjajaa
open Go.RowKit

/-- A width that is one. -/
def Kd (w e f P Q b : Int) : Prop := (w = 32 ∧ e = 8 ∧ f = 23 ∧ P = 8388608 ∧ Q = 256 ∧ b = 127) ∨ (w = 64 ∧ e = 11 ∧ f = 52 ∧ P = 4503599627370496 ∧ Q = 2048 ∧ b = 1023)
theorem Kd.wd {w e f P Q b : Int} (h : Kd w e f P Q b) : Wd w e f P Q b := by
  rcases h with h | h
  · exact Or.inl h
  · exact Or.inr (Or.inl h)
theorem Wd.known {w e f P Q b : Int} (h : Wd w e f P Q b) (hf : f ≠ 0) : Kd w e f P Q b := by
  rcases h with h | h | h
  · exact Or.inl h
  · exact Or.inr h
  · exact absurd h.2.2.1 hf
theorem Kd.f0 {w e f P Q b : Int} (h : Kd w e f P Q b) : f ≠ 0 := by rcases h with h | h <;> omega

set_option maxHeartbeats 400000 in
theorem refKnown_any {w e f P Q b : Int} (h : Wd w e f P Q b) (W : World) :
    Calls Try.prog 14 #[.int .i64 w] W fun r W' => r = .returned (.bool (f != 0)) ∧ Below W.heap.size W W' := by
  rcases h with ⟨rfl, rfl, rfl, rfl, rfl, rfl⟩ | ⟨rfl, rfl, rfl, rfl, rfl, rfl⟩ | ⟨⟨h1, h2⟩, rfl, rfl, rfl, rfl, rfl⟩
  · go_enter Try.func14, Try.ntmps14
    go_wp2
    go_ret
    exact ⟨rfl, by first | exact Below.refl _ _ | exact (Below.refl _ _).drew⟩
  · go_enter Try.func14, Try.ntmps14
    go_wp2
    go_ret
    exact ⟨rfl, by first | exact Below.refl _ _ | exact (Below.refl _ _).drew⟩
  · have c1 : (w == 32) = false := by simp [h1]
    have c2 : (w == 64) = false := by simp [h2]
    go_enter Try.func14, Try.ntmps14
    go_wp2
    go_ret
    exact ⟨rfl, by first | exact Below.refl _ _ | exact (Below.refl _ _).drew⟩

set_option maxHeartbeats 400000 in
theorem refE_any {w e f P Q b : Int} (h : Kd w e f P Q b) (W : World) :
    Calls Try.prog 58 #[.int .i64 w] W fun r W' => r = .returned (.int .i64 e) ∧ Below W.heap.size W W' := by
  rcases h with ⟨rfl, rfl, rfl, rfl, rfl, rfl⟩ | ⟨rfl, rfl, rfl, rfl, rfl, rfl⟩
  all_goals
    go_enter Try.func58, Try.ntmps58
    go_wp2
    go_ret
    exact ⟨rfl, Below.refl _ _⟩

set_option maxHeartbeats 400000 in
theorem refB_any {w e f P Q b : Int} (h : Kd w e f P Q b) (W : World) :
    Calls Try.prog 45 #[.int .i64 w] W fun r W' => r = .returned (.int .i64 b) ∧ Below W.heap.size W W' := by
  rcases h with ⟨rfl, rfl, rfl, rfl, rfl, rfl⟩ | ⟨rfl, rfl, rfl, rfl, rfl, rfl⟩
  all_goals
    go_enter Try.func45, Try.ntmps45
    go_wp2
    go_ret
    exact ⟨rfl, Below.refl _ _⟩

set_option maxHeartbeats 400000 in
theorem refF_any {w e f P Q b : Int} (h : Kd w e f P Q b) (W : World) :
    Calls Try.prog 46 #[.int .i64 w] W fun r W' => r = .returned (.int .i64 f) ∧ Below W.heap.size W W' := by
  have HE := hide (fun W => refE_any h W)
  rcases h with ⟨rfl, rfl, rfl, rfl, rfl, rfl⟩ | ⟨rfl, rfl, rfl, rfl, rfl, rfl⟩
  all_goals
    go_enter Try.func46, Try.ntmps46
    go_wp2_with fail
    refine (unhide HE _).mono ?_
    rintro _ w1 ⟨rfl, hb1⟩
    go_wp2
    go_ret
    exact ⟨rfl, hb1⟩

theorem pow_le63 {k : Nat} (h : k ≤ 63) : ((2 ^ k : Nat) : Int) ≤ 9223372036854775808 := by
  have : 2 ^ k ≤ 2 ^ 63 := Nat.pow_le_pow_right (by omega) h
  omega
set_option maxHeartbeats 1000000 in
theorem two_any (n T : Int) (W : World) (h0 : 0 ≤ n) (h1 : n ≤ 63) (hT : ((2 ^ n.toNat : Nat) : Int) = T) :
    Calls Try.prog 47 #[.int .i64 n] W fun r W' => r = .returned (.int .u64 T) ∧ Below W.heap.size W W' := by
  have HT := hide hT
  clear hT
  go_enter Try.func47, Try.ntmps47
  go_wp2_with fail
  go_loop [3, 4] (fun v3 v4 => ∃ (i p : Int), v3 = .int .u64 p ∧ v4 = .int .i64 i ∧ 0 ≤ i ∧ i ≤ n ∧ p = ((2 ^ i.toNat : Nat) : Int)) (fun _ v4 => (n - intOf v4).toNat)
  case atStart => exact ⟨0, 1, rfl, rfl, by omega, h0, rfl⟩
  case round =>
    obtain ⟨i, p, rfl, rfl, i0, i1, hp⟩ := hrel
    have HP := hide hp
    have h3 : p ≤ 9223372036854775808 := by rw [hp]; exact pow_le63 (by omega)
    have h2 : 0 ≤ p := by rw [hp]; exact Int.natCast_nonneg _
    clear hp
    by_cases hc : i < n
    · have h4 : p ≤ 4611686018427387904 := by
        rw [unhide HP]
        have : 2 ^ i.toNat ≤ 2 ^ 62 := Nat.pow_le_pow_right (by omega) (by omega)
        omega
      have hm : IntKind.u64.wrap (2 * p) = 2 * p := by rw [IntKind.wrap_u64]; omega
      have HQ : Hid (2 * p = ((2 ^ (i + 1).toNat : Nat) : Int)) := by
        rw [unhide HP, show (i + 1).toNat = i.toNat + 1 by omega, Nat.pow_succ]
        unfold Hid
        omega
      go_wp2_with fail
      exact ⟨⟨i + 1, 2 * p, rfl, rfl, by omega, by omega, unhide HQ⟩, by simp [intOf]; omega⟩
    · go_wp2_with fail
      go_ret
      exact ⟨ret1 (by rw [unhide HP, show i = n by omega]; exact unhide HT), Below.refl _ _⟩

theorem two_f {w e f P Q b : Int} (h : Kd w e f P Q b) (W : World) : Calls Try.prog 47 #[.int .i64 f] W fun r W' => r = .returned (.int .u64 P) ∧ Below W.heap.size W W' := by
  rcases h with ⟨rfl, rfl, rfl, rfl, rfl, rfl⟩ | ⟨rfl, rfl, rfl, rfl, rfl, rfl⟩
  all_goals exact two_any _ _ W (by omega) (by omega) (by decide +kernel)
theorem two_e {w e f P Q b : Int} (h : Kd w e f P Q b) (W : World) : Calls Try.prog 47 #[.int .i64 e] W fun r W' => r = .returned (.int .u64 Q) ∧ Below W.heap.size W W' := by
  rcases h with ⟨rfl, rfl, rfl, rfl, rfl, rfl⟩ | ⟨rfl, rfl, rfl, rfl, rfl, rfl⟩
  all_goals exact two_any _ _ W (by omega) (by omega) (by decide +kernel)
theorem two_w {w e f P Q b : Int} (h : Kd w e f P Q b) (W : World) : Calls Try.prog 47 #[.int .i64 (w - 1)] W fun r W' => r = .returned (.int .u64 (P * Q)) ∧ Below W.heap.size W W' := by
  rcases h with ⟨rfl, rfl, rfl, rfl, rfl, rfl⟩ | ⟨rfl, rfl, rfl, rfl, rfl, rfl⟩
  all_goals exact two_any _ _ W (by omega) (by omega) (by decide +kernel)
theorem two_h {w e f P Q b : Int} (h : Kd w e f P Q b) (W : World) : Calls Try.prog 47 #[.int .i64 (f - 1)] W fun r W' => r = .returned (.int .u64 (P / 2)) ∧ Below W.heap.size W W' := by
  rcases h with ⟨rfl, rfl, rfl, rfl, rfl, rfl⟩ | ⟨rfl, rfl, rfl, rfl, rfl, rfl⟩
  all_goals exact two_any _ _ W (by omega) (by omega) (by decide +kernel)

set_option maxHeartbeats 400000 in
theorem refCut_any {w e f P Q b : Int} (x : Int) (h : Kd w e f P Q b) (W : World) (h0 : 0 ≤ x) (h1 : x < 18446744073709551616) :
    Calls Try.prog 39 #[.int .i64 w, .int .u64 x] W fun r W' => r = .returned (.int .u64 (cutN f P Q x)) ∧ Below W.heap.size W W' := by
  rcases h with ⟨rfl, rfl, rfl, rfl, rfl, rfl⟩ | ⟨rfl, rfl, rfl, rfl, rfl, rfl⟩
  · go_enter Try.func39, Try.ntmps39
    go_wp2
    go_ret
    exact ⟨rfl, Below.refl _ _⟩
  · have HE : Hid (x = cutN 52 4503599627370496 2048 x) := by
      show x = if (52 : Int) = 0 then 0 else x % 18446744073709551616
      rw [if_neg (by decide)]
      omega
    go_enter Try.func39, Try.ntmps39
    go_wp2
    go_ret
    exact ⟨ret1 (unhide HE), Below.refl _ _⟩

set_option maxHeartbeats 400000 in
theorem refTop_any {w e f P Q b : Int} (h : Kd w e f P Q b) (W : World) :
    Calls Try.prog 44 #[.int .i64 w] W fun r W' => r = .returned (.int .i64 (Q - 1)) ∧ Below W.heap.size W W' := by
  have q : 1 ≤ Q ∧ Q ≤ 2048 := by rcases h with h | h <;> omega
  have k1 : IntKind.i64.wrap Q = Q := i64_id (by omega) (by omega)
  have k2 : IntKind.i64.wrap (Q - 1) = Q - 1 := i64_id (by omega) (by omega)
  have HC := hide (fun W => refE_any h W)
  have HD := hide (fun W => two_e h W)
  clear q h
  go_enter Try.func44, Try.ntmps44
  go_wp2_with fail
  refine (unhide HC _).mono ?_
  rintro _ w1 ⟨rfl, hb1⟩
  go_wp2_with fail
  refine (unhide HD _).mono ?_
  rintro _ w2 ⟨rfl, hb2⟩
  go_wp2_with fail
  go_ret
  exact ⟨rfl, bthen hb1 hb2⟩

theorem quo_u64 {c R : Int} (h0 : 0 ≤ c) (h1 : c < 18446744073709551616) (hR : 0 < R) : IntKind.u64.wrap (c.tdiv R) = c / R := by
  rw [Int.tdiv_eq_ediv_of_nonneg h0, IntKind.wrap_u64]
  have h2 := Int.ediv_le_self R h0
  have h3 := Int.ediv_nonneg h0 (Int.le_of_lt hR)
  omega
theorem frac_cut {w e f P Q b : Int} (x : Int) (h : Kd w e f P Q b) : cutN f P Q x / P % Q = x / P % Q ∧ (cutN f P Q x / (P * Q) == 1) = sg P Q x ∧ 0 ≤ cutN f P Q x ∧ cutN f P Q x < 18446744073709551616 := by
  unfold sg
  rcases h with ⟨rfl, rfl, rfl, rfl, rfl, rfl⟩ | ⟨rfl, rfl, rfl, rfl, rfl, rfl⟩
  · show (if (23 : Int) = 0 then 0 else x % 4294967296) / 8388608 % 256 = x / 8388608 % 256 ∧ ((if (23 : Int) = 0 then 0 else x % 4294967296) / 2147483648 == 1) = (x / 2147483648 % 2 == 1) ∧ (0 : Int) ≤ (if (23 : Int) = 0 then 0 else x % 4294967296) ∧ (if (23 : Int) = 0 then 0 else x % 4294967296) < 18446744073709551616
    rw [if_neg (show ¬ (23 : Int) = 0 by decide)]
    refine ⟨by omega, ?_, by omega, by omega⟩
    rw [show x % 4294967296 / 2147483648 = x / 2147483648 % 2 by omega]
  · show (if (52 : Int) = 0 then 0 else x % 18446744073709551616) / 4503599627370496 % 2048 = x / 4503599627370496 % 2048 ∧ ((if (52 : Int) = 0 then 0 else x % 18446744073709551616) / 9223372036854775808 == 1) = (x / 9223372036854775808 % 2 == 1) ∧ (0 : Int) ≤ (if (52 : Int) = 0 then 0 else x % 18446744073709551616) ∧ (if (52 : Int) = 0 then 0 else x % 18446744073709551616) < 18446744073709551616
    rw [if_neg (show ¬ (52 : Int) = 0 by decide)]
    refine ⟨by omega, ?_, by omega, by omega⟩
    rw [show x % 18446744073709551616 / 9223372036854775808 = x / 9223372036854775808 % 2 by omega]

set_option maxHeartbeats 400000 in
theorem refFrac_any {w e f P Q b : Int} (x : Int) (h : Kd w e f P Q b) (W : World) (h0 : 0 ≤ x) :
    Calls Try.prog 43 #[.int .i64 w, .int .u64 x] W fun r W' => r = .returned (.int .u64 (x % P)) ∧ Below W.heap.size W W' := by
  have HC := hide (fun W => refF_any h W)
  have HD := hide (fun W => two_f h W)
  have p0 : 0 < P := by rcases h with h | h <;> omega
  have p1 : (P == 0) = false := by simp; omega
  clear h
  go_enter Try.func43, Try.ntmps43
  go_wp2_with fail
  refine (unhide HC _).mono ?_
  rintro _ w1 ⟨rfl, hb1⟩
  go_wp2_with fail
  refine (unhide HD _).mono ?_
  rintro _ w2 ⟨rfl, hb2⟩
  go_wp2_with fail
  go_ret
  exact ⟨rfl, bthen hb1 hb2⟩

set_option maxHeartbeats 400000 in
theorem refNeg_any {w e f P Q b : Int} (x : Int) (h : Kd w e f P Q b) (W : World) (h0 : 0 ≤ x) (h1 : x < 18446744073709551616) :
    Calls Try.prog 41 #[.int .i64 w, .int .u64 x] W fun r W' => r = .returned (.bool (sg P Q x)) ∧ Below W.heap.size W W' := by
  have HC := hide (fun W => refCut_any x h W h0 h1)
  have HD := hide (fun W => two_w h W)
  have p0 : 0 < P * Q := by rcases h with ⟨_, _, _, rfl, rfl, _⟩ | ⟨_, _, _, rfl, rfl, _⟩ <;> decide
  have k1 : IntKind.i64.wrap (w - 1) = w - 1 := by rcases h with h | h <;> exact i64_id (by omega) (by omega)
  obtain ⟨c1, c2, c3, c4⟩ := frac_cut x h
  have HE := hide c2
  have k2 := quo_u64 c3 c4 p0
  clear c1 c2 c4 h h0 h1
  generalize cutN f P Q x = c at *
  generalize sg P Q x = n at *
  generalize P * Q = R at *
  go_enter Try.func41, Try.ntmps41
  go_wp2_with fail
  refine (unhide HC _).mono ?_
  rintro _ w1 ⟨rfl, hb1⟩
  go_wp2_with fail
  refine (unhide HD _).mono ?_
  rintro _ w2 ⟨rfl, hb2⟩
  go_wp2_with fail
  go_ret
  exact ⟨retb (unhide HE), bthen hb1 hb2⟩

set_option maxHeartbeats 1000000 in
theorem refExp_any {w e f P Q b : Int} (x : Int) (h : Kd w e f P Q b) (W : World) (h0 : 0 ≤ x) (h1 : x < 18446744073709551616) :
    Calls Try.prog 42 #[.int .i64 w, .int .u64 x] W fun r W' => r = .returned (.int .i64 (x / P % Q)) ∧ Below W.heap.size W W' := by
  have HC := hide (fun W => refCut_any x h W h0 h1)
  have HF := hide (fun W => refF_any h W)
  have HE := hide (fun W => refE_any h W)
  have HTf := hide (fun W => two_f h W)
  have HTe := hide (fun W => two_e h W)
  have p0 : 0 < P := by rcases h with h | h <;> omega
  have q0 : 0 < Q := by rcases h with h | h <;> omega
  have q1 : Q ≤ 2048 := by rcases h with h | h <;> omega
  obtain ⟨c1, c2, c3, c4⟩ := frac_cut x h
  have k2 := quo_u64 c3 c4 p0
  have p1 : ¬ P = 0 := by omega
  have q2 : ¬ Q = 0 := by omega
  have k3 : 0 ≤ cutN f P Q x / P := Int.ediv_nonneg c3 (Int.le_of_lt p0)
  have k4 : IntKind.i64.wrap (x / P % Q) = x / P % Q := by
    obtain ⟨u, v⟩ := exp_in (x / P) q0
    exact i64_id (by omega) (by omega)
  have k5 : (cutN f P Q x / P).tmod Q = x / P % Q := by rw [Int.tmod_eq_emod_of_nonneg k3, c1]
  clear c2 c4 h h0 h1 q1 p0 q0
  generalize x / P % Q = y at *
  generalize cutN f P Q x = c at *
  generalize c / P = d at *
  go_enter Try.func42, Try.ntmps42
  go_wp2_with fail
  have HB := hide ((Below.refl W.heap.size W).drew)
  refine wp_region_held_drew (S := Free) (by kernel_rfl) ?_ (fun hHeld => ?_)
  · (try dsimp only)
    exact free _
  refine lst0 13 (by kernel_rfl) ?_
  refine tkH 0 5 1 ?v0 rfl (by kernel_rfl) (by kernel_rfl) (fun _ _ _ h => h) (by assumption) (Or.inl ⟨by rfl, ?y0⟩) ?_
  case y0 => ((intro w hSw; (try dsimp only at hSw); go_simp) <;> with_reducible rfl)
  (try simp only [Act.put, List.setIfInBounds_toArray, List.set_cons_zero, List.set_cons_succ])
  refine tkH 1 6 3 ?v1 rfl (by kernel_rfl) (by kernel_rfl) (fun _ _ _ h => h) (by assumption) (Or.inl ⟨by rfl, ?y1⟩) ?_
  case y1 => ((intro w hSw; (try dsimp only at hSw); go_simp) <;> with_reducible rfl)
  (try simp only [Act.put, List.setIfInBounds_toArray, List.set_cons_zero, List.set_cons_succ])
  refine tkH 3 8 11 ?v3 rfl (by kernel_rfl) (by kernel_rfl) (fun _ _ _ h => h) (by assumption) (Or.inl ⟨by rfl, ?y3⟩) ?_
  case y3 => ((intro w hSw; (try dsimp only at hSw); go_simp) <;> with_reducible rfl)
  (try simp only [Act.put, List.setIfInBounds_toArray, List.set_cons_zero, List.set_cons_succ])
  refine tkH 7 12 139 ?v7 rfl (by kernel_rfl) (by kernel_rfl) (fun _ _ _ h => h) (by assumption) (Or.inl ⟨by rfl, ?y7⟩) ?_
  case y7 => ((intro w hSw; (try dsimp only at hSw); go_simp) <;> with_reducible rfl)
  (try simp only [Act.put, List.setIfInBounds_toArray, List.set_cons_zero, List.set_cons_succ])
  refine rdH 2 143 rfl (by kernel_rfl) (by kernel_rfl) (fun Kk hKk => ?_)
  go_simp
  refine (unhide HC _).mono ?_
  rintro _ wn ⟨rfl, hbl⟩
  have HB := hide (bthen (unhide HB) hbl)
  (try go_wp2_with fail)
  refine hKk.out _ _ ?_ (fun hHeld => ?_)
  · (try dsimp only)
    exact free _
  clear hKk Kk
  (try simp only [List.setIfInBounds_toArray, List.set_cons_zero, List.set_cons_succ])
  refine rdH 4 159 rfl (by kernel_rfl) (by kernel_rfl) (fun Kk hKk => ?_)
  go_simp
  refine (unhide HF _).mono ?_
  rintro _ wn ⟨rfl, hbl⟩
  have HB := hide (bthen (unhide HB) hbl)
  (try go_wp2_with fail)
  refine hKk.out _ _ ?_ (fun hHeld => ?_)
  · (try dsimp only)
    exact free _
  clear hKk Kk
  (try simp only [List.setIfInBounds_toArray, List.set_cons_zero, List.set_cons_succ])
  refine rdH 5 191 rfl (by kernel_rfl) (by kernel_rfl) (fun Kk hKk => ?_)
  go_simp
  refine (unhide HTf _).mono ?_
  rintro _ wn ⟨rfl, hbl⟩
  have HB := hide (bthen (unhide HB) hbl)
  (try go_wp2_with fail)
  refine hKk.out _ _ ?_ (fun hHeld => ?_)
  · (try dsimp only)
    exact free _
  clear hKk Kk
  (try simp only [List.setIfInBounds_toArray, List.set_cons_zero, List.set_cons_succ])
  refine tkH 6 11 255 ?v6 rfl (by kernel_rfl) (by kernel_rfl) (fun _ _ _ h => h) (by assumption) (Or.inl ⟨by rfl, ?y6⟩) ?_
  case y6 => ((intro w hSw; (try dsimp only at hSw); go_simp) <;> with_reducible rfl)
  (try simp only [Act.put, List.setIfInBounds_toArray, List.set_cons_zero, List.set_cons_succ])
  refine rdH 8 511 rfl (by kernel_rfl) (by kernel_rfl) (fun Kk hKk => ?_)
  go_simp
  refine (unhide HE _).mono ?_
  rintro _ wn ⟨rfl, hbl⟩
  have HB := hide (bthen (unhide HB) hbl)
  (try go_wp2_with fail)
  refine hKk.out _ _ ?_ (fun hHeld => ?_)
  · (try dsimp only)
    exact free _
  clear hKk Kk
  (try simp only [List.setIfInBounds_toArray, List.set_cons_zero, List.set_cons_succ])
  refine rdH 9 1023 rfl (by kernel_rfl) (by kernel_rfl) (fun Kk hKk => ?_)
  go_simp
  refine (unhide HTe _).mono ?_
  rintro _ wn ⟨rfl, hbl⟩
  have HB := hide (bthen (unhide HB) hbl)
  (try go_wp2_with fail)
  refine hKk.out _ _ ?_ (fun hHeld => ?_)
  · (try dsimp only)
    exact free _
  clear hKk Kk
  (try simp only [List.setIfInBounds_toArray, List.set_cons_zero, List.set_cons_succ])
  refine tkH 10 15 2047 ?v10 rfl (by kernel_rfl) (by kernel_rfl) (fun _ _ _ h => h) (by assumption) (Or.inl ⟨by rfl, ?y10⟩) ?_
  case y10 => ((intro w hSw; (try dsimp only at hSw); go_simp) <;> with_reducible rfl)
  (try simp only [Act.put, List.setIfInBounds_toArray, List.set_cons_zero, List.set_cons_succ])
  refine tkH 11 16 4095 ?v11 rfl (by kernel_rfl) (by kernel_rfl) (fun _ _ _ h => h) (by assumption) (Or.inl ⟨by rfl, ?y11⟩) ?_
  case y11 => ((intro w hSw; (try dsimp only at hSw); go_simp) <;> with_reducible rfl)
  (try simp only [Act.put, List.setIfInBounds_toArray, List.set_cons_zero, List.set_cons_succ])
  refine tkH 12 4 8191 ?v12 rfl (by kernel_rfl) (by kernel_rfl) (fun _ _ _ h => h) (by assumption) (Or.inl ⟨by rfl, ?y12⟩) ?_
  case y12 => ((intro w hSw; (try dsimp only at hSw); go_simp) <;> with_reducible rfl)
  (try simp only [Act.put, List.setIfInBounds_toArray, List.set_cons_zero, List.set_cons_succ])
  refine wpAnyH_done (by kernel_rfl) ?_ _
  go_wp2_with fail
  go_ret
  exact ⟨rfl, unhide HB⟩

theorem put_no {f P Q x y : Int} (hf : f ≠ 0) : put f P Q false x y = x * P + y := by unfold put; rw [if_neg hf]; simp
theorem put_yes {f P Q x y : Int} (hf : f ≠ 0) : put f P Q true x y = x * P + y + P * Q := by unfold put; rw [if_neg hf]; simp

set_option maxHeartbeats 1000000 in
theorem make_any {w e f P Q b : Int} (n : Bool) (x y : Int) (h : Kd w e f P Q b) (W : World) (x0 : 0 ≤ x) (x1 : x < Q) (y0 : 0 ≤ y) (y1 : y < P) :
    Calls Try.prog 57 #[.int .i64 w, .bool n, .int .i64 x, .int .u64 y] W fun r W' => r = .returned (.int .u64 (put f P Q n x y)) ∧ Below W.heap.size W W' := by
  have HC := hide (fun W => refF_any h W)
  have HD := hide (fun W => two_f h W)
  have HW := hide (fun W => two_w h W)
  have a1 : IntKind.u64.wrap x = x := by rw [IntKind.wrap_u64]; rcases h with h | h <;> omega
  have a2 : IntKind.u64.wrap (x * P) = x * P := by rw [IntKind.wrap_u64]; rcases h with ⟨_, _, _, rfl, rfl, _⟩ | ⟨_, _, _, rfl, rfl, _⟩ <;> omega
  have a3 : IntKind.u64.wrap (x * P + y) = x * P + y := by rw [IntKind.wrap_u64]; rcases h with ⟨_, _, _, rfl, rfl, _⟩ | ⟨_, _, _, rfl, rfl, _⟩ <;> omega
  have a4 : IntKind.u64.wrap (x * P + y + P * Q) = x * P + y + P * Q := by rw [IntKind.wrap_u64]; rcases h with ⟨_, _, _, rfl, rfl, _⟩ | ⟨_, _, _, rfl, rfl, _⟩ <;> omega
  have a5 : IntKind.i64.wrap (w - 1) = w - 1 := by rcases h with h | h <;> exact i64_id (by omega) (by omega)
  have HN := hide (put_no (P := P) (Q := Q) (x := x) (y := y) h.f0)
  have HY := hide (put_yes (P := P) (Q := Q) (x := x) (y := y) h.f0)
  clear h x0 x1 y0 y1
  generalize P * Q = R at *
  cases n
  · go_enter Try.func57, Try.ntmps57
    go_wp2_with fail
    refine (unhide HC _).mono ?_
    rintro _ w1 ⟨rfl, hb1⟩
    go_wp2_with fail
    refine (unhide HD _).mono ?_
    rintro _ w2 ⟨rfl, hb2⟩
    go_wp2_with fail
    go_ret
    exact ⟨ret1 (by rw [unhide HN]), bthen hb1 hb2⟩
  · go_enter Try.func57, Try.ntmps57
    go_wp2_with fail
    refine (unhide HC _).mono ?_
    rintro _ w1 ⟨rfl, hb1⟩
    go_wp2_with fail
    refine (unhide HD _).mono ?_
    rintro _ w2 ⟨rfl, hb2⟩
    go_wp2_with fail
    refine (unhide HW _).mono ?_
    rintro _ w3 ⟨rfl, hb3⟩
    go_wp2_with fail
    go_ret
    exact ⟨ret1 (by rw [unhide HY]), bthen (bthen hb1 hb2) hb3⟩

theorem Kd.pos {w e f P Q b : Int} (h : Kd w e f P Q b) : 2 ≤ P ∧ P ≤ 4503599627370496 ∧ 2 ≤ Q ∧ Q ≤ 2048 := by rcases h with h | h <;> omega

set_option maxHeartbeats 1000000 in
theorem refNan_any {w e f P Q b : Int} (h : Kd w e f P Q b) (W : World) :
    Calls Try.prog 40 #[.int .i64 w] W fun r W' => r = .returned (.int .u64 (put f P Q false (Q - 1) (P / 2))) ∧ Below W.heap.size W W' := by
  obtain ⟨p1, p2, q1, q2⟩ := h.pos
  have HT := hide (fun W => refTop_any h W)
  have HF := hide (fun W => refF_any h W)
  have HH := hide (fun W => two_h h W)
  have HM := hide (fun W => make_any false (Q - 1) (P / 2) h W (by omega) (by omega) (by omega) (by omega))
  have a5 : IntKind.i64.wrap (f - 1) = f - 1 := by rcases h with h | h <;> exact i64_id (by omega) (by omega)
  clear h p1 p2 q1 q2
  go_enter Try.func40, Try.ntmps40
  go_wp2_with fail
  refine (unhide HT _).mono ?_
  rintro _ w1 ⟨rfl, hb1⟩
  go_wp2_with fail
  refine (unhide HF _).mono ?_
  rintro _ w2 ⟨rfl, hb2⟩
  go_wp2_with fail
  refine (unhide HH _).mono ?_
  rintro _ w3 ⟨rfl, hb3⟩
  go_wp2_with fail
  refine (unhide HM _).mono ?_
  rintro _ w4 ⟨rfl, hb4⟩
  go_wp2_with fail
  go_ret
  exact ⟨rfl, bthen (bthen (bthen hb1 hb2) hb3) hb4⟩

end Go.Proofs.Ytefpknkbfmjajaa
namespace Go.Proofs.Ytefpknkbfmjajaa
open Go.RowKit

theorem bset4 {a b : World} (h : Below a.heap.size a b) (v0 v1 v2 v3 : Value) : Below a.heap.size a ((((b.setCell ⟨a.heap.size, 0, none⟩ v0).setCell ⟨a.heap.size, 1, none⟩ v1).setCell ⟨a.heap.size, 2, none⟩ v2).setCell ⟨a.heap.size, 3, none⟩ v3) :=
  bset (bset (bset (bset h _ (Nat.le_refl _) _ _) _ (Nat.le_refl _) _ _) _ (Nat.le_refl _) _ _) _ (Nat.le_refl _) _ _
theorem room4 {W w1 : World} {v0 v1 v2 v3 : Value} {t : TypeId} (hb : Below (W.alloc (.cells #[v0, v1, v2, v3] t)).heap.size (W.alloc (.cells #[v0, v1, v2, v3] t)) w1) : Room W.heap.size 4 w1 :=
  Room.below (w := W.alloc (.cells #[v0, v1, v2, v3] t)) (by
    intro o ho
    match o, ho with
    | 0, _ | 1, _ | 2, _ | 3, _ => simp [go_sem]) hb
theorem At5.set {b c : Nat} {x y z u v : Value} {w : World} (h : At5 b x y z u v w) (hc : b ≠ c) (o : Nat) (k : Value) : At5 b x y z u v (w.setCell ⟨c, o, none⟩ k) :=
  ⟨keep_set _ _ _ hc h.1, keep_set _ _ _ hc h.2.1, keep_set _ _ _ hc h.2.2.1, keep_set _ _ _ hc h.2.2.2.1, keep_set _ _ _ hc h.2.2.2.2⟩

/-- What a float of these fields is taken apart into. -/
def Opened (f P Q b : Int) (n : Bool) (x y : Int) (N : Bool) (K X S : Int) : Prop :=
  (f = 0 ∧ N = false ∧ K = 0 ∧ X = 0 ∧ S = 0) ∨
  (f ≠ 0 ∧ x = Q - 1 ∧ y ≠ 0 ∧ N = false ∧ K = 3 ∧ X = 0 ∧ S = 0) ∨
  (f ≠ 0 ∧ x = Q - 1 ∧ y = 0 ∧ N = n ∧ K = 2 ∧ X = 0 ∧ S = 0) ∨
  (f ≠ 0 ∧ x ≠ Q - 1 ∧ x ≠ 0 ∧ N = n ∧ K = 1 ∧ X = x - b - f ∧ S = P + y) ∨
  (f ≠ 0 ∧ x ≠ Q - 1 ∧ x = 0 ∧ y ≠ 0 ∧ N = n ∧ K = 1 ∧ X = 1 - b - f ∧ S = y) ∨
  (f ≠ 0 ∧ x ≠ Q - 1 ∧ x = 0 ∧ y = 0 ∧ N = n ∧ K = 0 ∧ X = 0 ∧ S = 0)
theorem ne_t {a b : Int} (h : a ≠ b) : (a != b) = true := by simp [h]
theorem ne_f {a b : Int} (h : a = b) : (a != b) = false := by simp [h]
theorem eq_t {a b : Int} (h : a = b) : (a == b) = true := by simp [h]
theorem eq_f {a b : Int} (h : a ≠ b) : (a == b) = false := by simp [h]

def At4 (b : Nat) (x y z u : Value) (w : World) : Prop := w.cell? ⟨b, 0, none⟩ = some x ∧ w.cell? ⟨b, 1, none⟩ = some y ∧ w.cell? ⟨b, 2, none⟩ = some z ∧ w.cell? ⟨b, 3, none⟩ = some u
theorem At4.below {b : Nat} {x y z u : Value} {w w' : World} (h : At4 b x y z u w) (hb : Below w.heap.size w w') : At4 b x y z u w' :=
  have hz := lt_of_cell h.1
  ⟨keep1 hb hz h.1, keep1 hb hz h.2.1, keep1 hb hz h.2.2.1, keep1 hb hz h.2.2.2⟩
theorem at4_new (w : World) (x y z u : Value) (t : TypeId) : At4 w.heap.size x y z u (w.alloc (.cells #[x, y, z, u] t)) := by unfold At4; simp [go_sem]

end Go.Proofs.Ytefpknkbfmjajaa
namespace Go.Proofs.Ytefpknkbfmjajaa
open Go.RowKit

theorem At2.set {b c : Nat} {x y : Value} {w : World} (h : At2 b x y w) (hc : b ≠ c) (o : Nat) (k : Value) : At2 b x y (w.setCell ⟨c, o, none⟩ k) :=
  ⟨keep_set _ _ _ hc h.1, keep_set _ _ _ hc h.2⟩
theorem At4.set {b c : Nat} {x y z u : Value} {w : World} (h : At4 b x y z u w) (hc : b ≠ c) (o : Nat) (k : Value) : At4 b x y z u (w.setCell ⟨c, o, none⟩ k) :=
  ⟨keep_set _ _ _ hc h.1, keep_set _ _ _ hc h.2.1, keep_set _ _ _ hc h.2.2.1, keep_set _ _ _ hc h.2.2.2⟩
end Go.Proofs.Ytefpknkbfmjajaa
namespace Go.Proofs.Ytefpknkbfmjajaa
open Go.RowKit

/-- A block of nine values. -/
def At9 (b : Nat) (x0 x1 x2 x3 x4 x5 x6 x7 x8 : Value) (w : World) : Prop :=
  w.cell? ⟨b, 0, none⟩ = some x0 ∧ w.cell? ⟨b, 1, none⟩ = some x1 ∧ w.cell? ⟨b, 2, none⟩ = some x2 ∧ w.cell? ⟨b, 3, none⟩ = some x3 ∧ w.cell? ⟨b, 4, none⟩ = some x4 ∧
  w.cell? ⟨b, 5, none⟩ = some x5 ∧ w.cell? ⟨b, 6, none⟩ = some x6 ∧ w.cell? ⟨b, 7, none⟩ = some x7 ∧ w.cell? ⟨b, 8, none⟩ = some x8
theorem At9.below {b : Nat} {x0 x1 x2 x3 x4 x5 x6 x7 x8 : Value} {w w' : World} (h : At9 b x0 x1 x2 x3 x4 x5 x6 x7 x8 w) (hb : Below w.heap.size w w') : At9 b x0 x1 x2 x3 x4 x5 x6 x7 x8 w' :=
  have hz := lt_of_cell h.1
  ⟨keep1 hb hz h.1, keep1 hb hz h.2.1, keep1 hb hz h.2.2.1, keep1 hb hz h.2.2.2.1, keep1 hb hz h.2.2.2.2.1, keep1 hb hz h.2.2.2.2.2.1, keep1 hb hz h.2.2.2.2.2.2.1, keep1 hb hz h.2.2.2.2.2.2.2.1, keep1 hb hz h.2.2.2.2.2.2.2.2⟩
end Go.Proofs.Ytefpknkbfmjajaa
namespace Go.Proofs.Ytefpknkbfmjajaa
open Go.RowKit
open Go.Proofs.Ytefpknkbfmjajaa.W

/-- An exponent, brought near. -/
def cap (X : Int) : Int := if X < -4096 then -4096 else if 4096 < X then 4096 else X
/-- The least floats' last bit, 5000 bits up. -/
def lowN (f b : Int) : Nat := (5001 - b - f).toNat
/-- A code, no more than the infinite one's. -/
def lid (P Q c : Int) : Int := if (Q - 1) * P ≤ c then (Q - 1) * P else c
/-- The float of a code and a sign. -/
def fl (f P Q : Int) (n : Bool) (c : Int) : Int := put f P Q n (c / P) (c % P)
theorem Kd.pow {w e f P Q b : Int} (k : Kd w e f P Q b) : P = ((2 ^ f.toNat : Nat) : Int) ∧ 0 ≤ f ∧ f ≤ 52 ∧ -1074 ≤ 1 - b - f ∧ 1 - b - f ≤ 0 ∧ 127 ≤ b ∧ b ≤ 1023 := by
  rcases k with ⟨_, _, rfl, rfl, _, rfl⟩ | ⟨_, _, rfl, rfl, _, rfl⟩ <;> exact ⟨rfl, by omega, by omega, by omega, by omega, by omega, by omega⟩

end Go.Proofs.Ytefpknkbfmjajaa
namespace Go.Proofs.Ytefpknkbfmjajaa
open Go.RowKit

theorem at4_new2a (w : World) (x y z u : Value) (t : TypeId) (o : Obj) : At4 w.heap.size x y z u ((w.alloc (.cells #[x, y, z, u] t)).alloc o) := by unfold At4; simp [go_sem]
theorem at4_new2b (w : World) (o : Obj) (x y z u : Value) (t : TypeId) : At4 (w.heap.size + 1) x y z u ((w.alloc o).alloc (.cells #[x, y, z, u] t)) := by unfold At4; simp [go_sem]
end Go.Proofs.Ytefpknkbfmjajaa
namespace Go.Proofs.Ytefpknkbfmjajaa
open Go.RowKit
open Go.Proofs.Ytefpknkbfmjajaa.W

/-- The number of a float's parts, 5000 bits up. -/
def mag (X S : Int) : Nat := S.toNat * 2 ^ (X + 5000).toNat
/-- The float that is nearest to a number. -/
def rd (f P Q b : Int) (n : Bool) (M : Nat) : Int := fl f P Q n (lid P Q (code f.toNat (lowN f b) M : Nat))
/-- The sum of two floats that are taken apart. -/
def addP (f P Q b : Int) (n1 : Bool) (K1 : Int) (M1 : Nat) (n2 : Bool) (K2 : Int) (M2 : Nat) : Int :=
  if K1 = 3 ∨ K2 = 3 ∨ (K1 = 2 ∧ K2 = 2 ∧ n1 ≠ n2) then put f P Q false (Q - 1) (P / 2)
  else if K1 = 2 then put f P Q n1 (Q - 1) 0
  else if K2 = 2 then put f P Q n2 (Q - 1) 0
  else if n1 = n2 then rd f P Q b n1 (M1 + M2)
  else if M1 = M2 then put f P Q false 0 0
  else if M1 < M2 then rd f P Q b n2 (M2 - M1)
  else rd f P Q b n1 (M1 - M2)
/-- What parts of a float there are. -/
def Prt (f P Q b K X S : Int) : Prop :=
  (K = 3 ∧ X = 0 ∧ S = 0) ∨ (K = 2 ∧ X = 0 ∧ S = 0) ∨ (K = 0 ∧ X = 0 ∧ S = 0) ∨
  (K = 1 ∧ 1 - b - f ≤ X ∧ X ≤ Q - 2 - b - f ∧ 0 < S ∧ S < 2 * P ∧ (1 - b - f < X → P ≤ S))

theorem opened_prt {w e f P Q b x y X S K : Int} {n N : Bool} (k : Kd w e f P Q b) (ho : Opened f P Q b n x y N K X S) (x0 : 0 ≤ x) (x1 : x < Q) (y0 : 0 ≤ y) (y1 : y < P) : Prt f P Q b K X S := by
  have hf := k.f0
  unfold Prt
  rcases ho with ⟨h, _⟩ | ⟨_, _, _, _, rfl, rfl, rfl⟩ | ⟨_, _, _, _, rfl, rfl, rfl⟩ | ⟨_, h1, h2, _, rfl, rfl, rfl⟩ | ⟨_, h1, h2, h3, _, rfl, rfl, rfl⟩ | ⟨_, h1, h2, h3, _, rfl, rfl, rfl⟩
  · exact absurd h hf
  · exact Or.inl ⟨rfl, rfl, rfl⟩
  · exact Or.inr (Or.inl ⟨rfl, rfl, rfl⟩)
  · refine Or.inr (Or.inr (Or.inr ⟨rfl, by omega, by omega, by omega, by omega, fun _ => by omega⟩))
  · have : 2 ≤ Q ∧ 1 ≤ P := by rcases k with k | k <;> omega
    refine Or.inr (Or.inr (Or.inr ⟨rfl, by omega, ?_, by omega, by omega, fun h => by omega⟩))
    rcases k with k | k <;> omega
  · exact Or.inr (Or.inr (Or.inl ⟨rfl, rfl, rfl⟩))

theorem Prt.in {w e f P Q b K X S : Int} (k : Kd w e f P Q b) (h : Prt f P Q b K X S) : -1200 ≤ X ∧ X ≤ 1100 ∧ 0 ≤ S ∧ S < 2 * P ∧ S < 9007199254740992 := by
  unfold Prt at h
  rcases k with ⟨-, -, rfl, rfl, rfl, rfl⟩ | ⟨-, -, rfl, rfl, rfl, rfl⟩ <;> omega
theorem add_comm {f P Q b : Int} (n1 n2 : Bool) (K1 K2 : Int) (M1 M2 : Nat) : addP f P Q b n1 K1 M1 n2 K2 M2 = addP f P Q b n2 K2 M2 n1 K1 M1 := by
  unfold addP
  by_cases h3 : K1 = 3 ∨ K2 = 3 ∨ (K1 = 2 ∧ K2 = 2 ∧ n1 ≠ n2)
  · rw [if_pos h3, if_pos (by
      rcases h3 with h | h | ⟨h1, h2, h⟩
      · exact Or.inr (Or.inl h)
      · exact Or.inl h
      · exact Or.inr (Or.inr ⟨h2, h1, fun he => h he.symm⟩))]
  · have h3' : ¬ (K2 = 3 ∨ K1 = 3 ∨ (K2 = 2 ∧ K1 = 2 ∧ n2 ≠ n1)) := fun h => h3 (by
      rcases h with h | h | ⟨h1, h2, h⟩
      · exact Or.inr (Or.inl h)
      · exact Or.inl h
      · exact Or.inr (Or.inr ⟨h2, h1, fun he => h he.symm⟩))
    rw [if_neg h3, if_neg h3']
    by_cases ka : K1 = 2
    · rw [if_pos ka]
      by_cases kb : K2 = 2
      · rw [if_pos kb]
        have : n1 = n2 := Decidable.byContradiction fun hn => h3 (Or.inr (Or.inr ⟨ka, kb, hn⟩))
        rw [this]
      · rw [if_neg kb, if_pos ka]
    · rw [if_neg ka]
      by_cases kb : K2 = 2
      · rw [if_pos kb, if_pos kb]
      · rw [if_neg kb, if_neg kb, if_neg ka]
        by_cases hn : n1 = n2
        · subst hn
          rw [if_pos rfl, if_pos rfl, Nat.add_comm]
        · rw [if_neg hn, if_neg (fun h : n2 = n1 => hn h.symm)]
          by_cases hM : M1 = M2
          · rw [if_pos hM, if_pos hM.symm]
          · rw [if_neg hM, if_neg (fun h : M2 = M1 => hM h.symm)]
            by_cases hl : M1 < M2
            · rw [if_pos hl, if_neg (by omega)]
            · rw [if_neg hl, if_pos (by omega)]

end Go.Proofs.Ytefpknkbfmjajaa
namespace Go.Proofs.Ytefpknkbfmjajaa
open Go.RowKit
open Go.Proofs.Ytefpknkbfmjajaa.W

/-- A float's bits without the sign, as a number. -/
def oc (P Q x : Int) : Nat := (x / P % Q * P + x % P).toNat
/-- Its kind. -/
def oK (P Q x : Int) : Int := if x / P % Q = Q - 1 then (if x % P = 0 then 2 else 3) else if x / P % Q = 0 ∧ x % P = 0 then 0 else 1
/-- Its sign. -/
def oN (P Q x : Int) : Bool := if x / P % Q = Q - 1 ∧ x % P ≠ 0 then false else sg P Q x
/-- Its number, 5000 bits up. -/
def oM (f P Q b x : Int) : Nat := if x / P % Q = Q - 1 then 0 else fval f.toNat (lowN f b) (oc P Q x)
/-- The difference of two floats. -/
def subB (f P Q b x y : Int) : Int := addP f P Q b (oN P Q x) (oK P Q x) (oM f P Q b x) (!oN P Q y) (oK P Q y) (oM f P Q b y)

theorem mag_zero (X : Int) : mag X 0 = 0 := by
  unfold mag
  rw [show (0 : Int).toNat = 0 from rfl, Nat.zero_mul]
theorem open_kd {w e f P Q b : Int} (k : Kd w e f P Q b) (x : Int) : ∃ X S, Opened f P Q b (sg P Q x) (x / P % Q) (x % P) (oN P Q x) (oK P Q x) X S ∧ Prt f P Q b (oK P Q x) X S ∧ mag X S = oM f P Q b x := by
  obtain ⟨p1, p2, q1, q2⟩ := k.pos
  obtain ⟨hP, f0, f1, l0, l1, b0, b1⟩ := k.pow
  obtain ⟨u, v⟩ := exp_in (x / P) (show 1 ≤ Q by omega)
  obtain ⟨u', v'⟩ := exp_in x (show 1 ≤ P by omega)
  have hf := k.f0
  unfold oM oN oK oc
  generalize x / P % Q = e at *
  generalize x % P = y at *
  generalize sg P Q x = n at *
  by_cases h1 : e = Q - 1
  · rw [if_pos h1, if_pos h1]
    by_cases h2 : y = 0
    · rw [if_pos h2, if_neg (by omega)]
      exact ⟨0, 0, Or.inr (Or.inr (Or.inl ⟨hf, h1, h2, rfl, rfl, rfl, rfl⟩)), Or.inr (Or.inl ⟨rfl, rfl, rfl⟩), mag_zero 0⟩
    · rw [if_neg h2, if_pos ⟨h1, h2⟩]
      exact ⟨0, 0, Or.inr (Or.inl ⟨hf, h1, h2, rfl, rfl, rfl, rfl⟩), Or.inl ⟨rfl, rfl, rfl⟩, mag_zero 0⟩
  · rw [if_neg h1, if_neg h1, if_neg (fun h => h1 h.1)]
    by_cases h2 : e = 0
    · by_cases h3 : y = 0
      · rw [if_pos ⟨h2, h3⟩]
        refine ⟨0, 0, Or.inr (Or.inr (Or.inr (Or.inr (Or.inr ⟨hf, h1, h2, h3, rfl, rfl, rfl, rfl⟩)))), Or.inr (Or.inr (Or.inl ⟨rfl, rfl, rfl⟩)), ?_⟩
        rw [h2, h3, Int.zero_mul, mag_zero, show ((0 : Int) + 0).toNat = 0 from rfl, fval_zero]
      · rw [if_neg (fun h => h3 h.2)]
        have ho : Opened f P Q b n e y n 1 (1 - b - f) y := Or.inr (Or.inr (Or.inr (Or.inr (Or.inl ⟨hf, h1, h2, h3, rfl, rfl, rfl, rfl⟩))))
        refine ⟨1 - b - f, y, ho, opened_prt k ho u v u' v', ?_⟩
        have hv := fval_norm f.toNat (lowN f b) y.toNat (lowN f b) (by rw [Nat.pow_succ]; omega) (Nat.le_refl _) (fun h => absurd h (Nat.lt_irrefl _))
        rw [Nat.sub_self, Nat.zero_mul, Nat.zero_add] at hv
        rw [h2, Int.zero_mul, Int.zero_add, hv]
        unfold mag
        rw [show (1 - b - f + 5000).toNat = lowN f b by unfold lowN; omega]
    · rw [if_neg (fun h => h2 h.1)]
      have ho : Opened f P Q b n e y n 1 (e - b - f) (P + y) := Or.inr (Or.inr (Or.inr (Or.inl ⟨hf, h1, h2, rfl, rfl, rfl, rfl⟩)))
      refine ⟨e - b - f, P + y, ho, opened_prt k ho u v u' v', ?_⟩
      have hk : (e - b - f + 5000).toNat = lowN f b + (e.toNat - 1) := by unfold lowN; omega
      have hv := fval_norm f.toNat (lowN f b) (P + y).toNat (lowN f b + (e.toNat - 1)) (by rw [Nat.pow_succ]; omega) (by omega) (fun _ => by omega)
      unfold mag
      rw [hk, ← hv]
      congr 1
      rw [show lowN f b + (e.toNat - 1) - lowN f b = e.toNat - 1 by omega]
      have e1 : (e * P + y).toNat = e.toNat * 2 ^ f.toNat + y.toNat := by
        have : ((e.toNat * 2 ^ f.toNat : Nat) : Int) = e * P := by
          rw [Int.natCast_mul, ← hP, Int.toNat_of_nonneg u]
        omega
      have e2 : (P + y).toNat = 2 ^ f.toNat + y.toNat := by omega
      rw [e1, e2, ← Nat.add_assoc]
      congr 1
      obtain ⟨j, hj⟩ : ∃ j, e.toNat = j + 1 := ⟨e.toNat - 1, by omega⟩
      rw [hj, Nat.add_sub_cancel, Nat.add_mul, Nat.one_mul]

theorem put_0 {f P Q x y : Int} {n : Bool} (hf : f = 0) : put f P Q n x y = 0 := by unfold put; rw [if_pos hf]
end Go.Proofs.Ytefpknkbfmjajaa
namespace Go.Proofs.Ytefpknkbfmjajaa
open Go.RowKit
open Go.Proofs.Ytefpknkbfmjajaa.W

theorem put_in {w e f P Q b x y : Int} {n : Bool} (h : Kd w e f P Q b) (x0 : 0 ≤ x) (x1 : x < Q) (y0 : 0 ≤ y) (y1 : y < P) :
    0 ≤ put f P Q n x y ∧ put f P Q n x y < 18446744073709551616 ∧ sg P Q (put f P Q n x y) = n ∧ put f P Q n x y / P % Q = x ∧ put f P Q n x y % P = y := by
  unfold sg
  cases n
  · rw [put_no h.f0]
    rcases h with ⟨-, -, -, rfl, rfl, -⟩ | ⟨-, -, -, rfl, rfl, -⟩
    · refine ⟨by omega, by omega, ?_, by omega, by omega⟩
      show ((x * 8388608 + y) / 2147483648 % 2 == 1) = false
      exact eq_f (by omega)
    · refine ⟨by omega, by omega, ?_, by omega, by omega⟩
      show ((x * 4503599627370496 + y) / 9223372036854775808 % 2 == 1) = false
      exact eq_f (by omega)
  · rw [put_yes h.f0]
    rcases h with ⟨-, -, -, rfl, rfl, -⟩ | ⟨-, -, -, rfl, rfl, -⟩
    · refine ⟨by omega, by omega, ?_, by omega, by omega⟩
      show ((x * 8388608 + y + 2147483648) / 2147483648 % 2 == 1) = true
      exact eq_t (by omega)
    · refine ⟨by omega, by omega, ?_, by omega, by omega⟩
      show ((x * 4503599627370496 + y + 9223372036854775808) / 9223372036854775808 % 2 == 1) = true
      exact eq_t (by omega)

/-- The infinite one's code. -/
def top (P Q : Int) : Int := (Q - 1) * P
theorem top_pos {w e f P Q b : Int} (k : Kd w e f P Q b) : 0 < top P Q := by
  unfold top
  rcases k with ⟨-, -, -, rfl, rfl, -⟩ | ⟨-, -, -, rfl, rfl, -⟩ <;> omega
/-- The canonical NaN. -/
def nanB (f P Q : Int) : Int := put f P Q false (Q - 1) (P / 2)

theorem nan_facts {w e f P Q b : Int} (k : Kd w e f P Q b) :
    0 ≤ nanB f P Q ∧ nanB f P Q < 18446744073709551616 ∧ oK P Q (nanB f P Q) = 3 ∧ cutN f P Q (nanB f P Q) = nanB f P Q ∧ (nanB f P Q / P % Q == Q - 1 && nanB f P Q % P != 0) = true := by
  obtain ⟨p1, p2, q1, q2⟩ := k.pos
  have h2 : P / 2 ≠ 0 := by omega
  obtain ⟨r0, r1, r2, r3, r4⟩ := put_in (x := Q - 1) (y := P / 2) (n := false) k (by omega) (by omega) (by omega) (by omega)
  unfold nanB
  refine ⟨r0, r1, ?_, ?_, ?_⟩
  · unfold oK
    rw [r3, r4, if_pos rfl, if_neg h2]
  · rw [← cut_put k.wd.sz, r2, r3, r4]
  · rw [r3, r4]
    simp [h2]

/-- A float by its code. -/
theorem kind_oc {w e f P Q b : Int} (k : Kd w e f P Q b) (x : Int) :
    (oK P Q x = 3 ∧ top P Q < oc P Q x ∧ oN P Q x = false) ∨ (oK P Q x = 2 ∧ (oc P Q x : Int) = top P Q ∧ oM f P Q b x = 0) ∨
    (oK P Q x = 1 ∧ 0 < oc P Q x ∧ (oc P Q x : Int) < top P Q ∧ oM f P Q b x = fval f.toNat (lowN f b) (oc P Q x)) ∨ (oK P Q x = 0 ∧ oc P Q x = 0 ∧ oM f P Q b x = 0) := by
  obtain ⟨p1, p2, q1, q2⟩ := k.pos
  obtain ⟨u, v⟩ := exp_in (x / P) (show 1 ≤ Q by omega)
  obtain ⟨u', v'⟩ := exp_in x (show 1 ≤ P by omega)
  unfold oM oN oK
  have hc : ((oc P Q x : Nat) : Int) = x / P % Q * P + x % P := by
    unfold oc
    have := Int.mul_nonneg u (show 0 ≤ P by omega)
    omega
  have hz := fval_zero f.toNat (lowN f b)
  generalize oc P Q x = c at *
  generalize x / P % Q = e at *
  generalize x % P = y at *
  generalize sg P Q x = n at *
  by_cases h1 : e = Q - 1
  · rw [if_pos h1, if_pos h1]
    by_cases h2 : y = 0
    · rw [if_pos h2]
      refine Or.inr (Or.inl ⟨rfl, ?_, rfl⟩)
      rw [hc, h1, h2]
      unfold top
      omega
    · rw [if_neg h2, if_pos ⟨h1, h2⟩]
      refine Or.inl ⟨rfl, ?_, rfl⟩
      rw [hc, h1]
      unfold top
      omega
  · rw [if_neg h1, if_neg h1]
    by_cases h2 : e = 0 ∧ y = 0
    · rw [if_pos h2]
      have : c = 0 := by
        rw [h2.1, h2.2] at hc
        omega
      subst this
      exact Or.inr (Or.inr (Or.inr ⟨rfl, rfl, hz⟩))
    · rw [if_neg h2]
      refine Or.inr (Or.inr (Or.inl ⟨rfl, ?_, ?_, rfl⟩))
      · rcases k with ⟨-, -, -, rfl, rfl, -⟩ | ⟨-, -, -, rfl, rfl, -⟩ <;> omega
      · unfold top
        rcases k with ⟨-, -, -, rfl, rfl, -⟩ | ⟨-, -, -, rfl, rfl, -⟩ <;> omega
theorem oM_fin {w e f P Q b : Int} (k : Kd w e f P Q b) {x : Int} (h : oK P Q x ≠ 3 ∧ oK P Q x ≠ 2) : oM f P Q b x = fval f.toNat (lowN f b) (oc P Q x) ∧ (oc P Q x : Int) < top P Q := by
  have ht := top_pos k
  rcases kind_oc k x with ⟨h1, _⟩ | ⟨h1, _⟩ | ⟨_, _, h2, h3⟩ | ⟨_, h2, h3⟩
  · exact absurd h1 h.1
  · exact absurd h1 h.2
  · exact ⟨h3, h2⟩
  · rw [h2, h3, fval_zero]
    exact ⟨rfl, ht⟩
/-- What a float's bits are by its sign and its code. -/
theorem cut_fl {w e f P Q b : Int} (k : Kd w e f P Q b) {x : Int} (h : oK P Q x ≠ 3) : cutN f P Q x = fl f P Q (oN P Q x) (oc P Q x : Int) := by
  obtain ⟨p1, p2, q1, q2⟩ := k.pos
  obtain ⟨u, v⟩ := exp_in (x / P) (show 1 ≤ Q by omega)
  obtain ⟨u', v'⟩ := exp_in x (show 1 ≤ P by omega)
  rw [← cut_put k.wd.sz]
  have hn : oN P Q x = sg P Q x := by
    unfold oN
    unfold oK at h
    by_cases h1 : x / P % Q = Q - 1
    · rw [if_pos h1] at h
      by_cases h2 : x % P = 0
      · rw [if_neg (fun h' => h'.2 h2)]
      · rw [if_neg h2] at h
        exact absurd rfl h
    · rw [if_neg (fun h' => h1 h'.1)]
  have hc : ((oc P Q x : Nat) : Int) = x / P % Q * P + x % P := by
    unfold oc
    have := Int.mul_nonneg u (show 0 ≤ P by omega)
    omega
  unfold fl
  rw [hn, hc]
  generalize x / P % Q = e at *
  generalize x % P = y at *
  congr 1
  · rw [Int.add_comm, Int.add_mul_ediv_right _ _ (by omega), Int.ediv_eq_zero_of_lt u' v', Int.zero_add]
  · rw [Int.add_comm, Int.add_mul_emod_self_right, Int.emod_eq_of_lt u' v']

/-- A float less itself. -/
theorem sub_self {w e f P Q b : Int} (k : Kd w e f P Q b) {x : Int} : (oK P Q x = 2 → subB f P Q b x x = nanB f P Q) ∧ (oK P Q x ≠ 2 → oK P Q x ≠ 3 → subB f P Q b x x = 0) := by
  unfold subB addP
  refine ⟨fun h => ?_, fun h h3 => ?_⟩
  · rw [if_pos (Or.inr (Or.inr ⟨h, h, by cases oN P Q x <;> simp⟩))]
    rfl
  · rw [if_neg (by omega), if_neg h, if_neg h, if_neg (by cases oN P Q x <;> simp), if_pos rfl, put_no k.f0]
    omega
end Go.Proofs.Ytefpknkbfmjajaa
namespace Go.Proofs.Ytefpknkbfmjajaa
open Go.RowKit
open Go.Proofs.Ytefpknkbfmjajaa.W

set_option maxRecDepth 100000 in
set_option maxHeartbeats 2000000 in
theorem okn_l {w e f : Int} (W : World) (HF : Hid (∀ W, Calls Try.prog 54 #[.int .i64 w] W fun r W' => r = .returned (.tuple #[.int .i64 e, .int .i64 f]) ∧ Below W.heap.size W W')) :
    Calls Try.prog 26 #[.int .i64 w] W fun r W' => r = .returned (.bool (e != 0)) ∧ Below W.heap.size W W' := by
  go_enter Try.func26, Try.ntmps26
  go_wp2_with fail
  refine (unhide HF _).mono ?_
  rintro _ w1 ⟨rfl, hb⟩
  have HB := hide hb
  clear hb
  go_wp2_with fail
  go_ret
  exact ⟨rfl, unhide HB⟩
set_option maxRecDepth 100000 in
set_option maxHeartbeats 2000000 in
theorem rank_f {w x : Int} (W : World) (HKN : Hid (∀ W, Calls Try.prog 26 #[.int .i64 w] W fun r W' => r = .returned (.bool false) ∧ Below W.heap.size W W')) :
    Calls Try.prog 18 #[.int .i64 w, .int .u64 x] W fun r W' => r = .returned (.tuple #[.int .i64 0, .bool false]) ∧ Below W.heap.size W W' := by
  go_enter Try.func18, Try.ntmps18
  go_wp2_with fail
  refine (unhide HKN _).mono ?_
  rintro _ w1 ⟨rfl, hb⟩
  have HB := hide hb
  clear hb
  go_wp2_with fail
  go_ret2
  exact ⟨rfl, unhide HB⟩
set_option maxRecDepth 100000 in
set_option maxHeartbeats 2000000 in
theorem rank_n {w x : Int} (W : World) (HKN : Hid (∀ W, Calls Try.prog 26 #[.int .i64 w] W fun r W' => r = .returned (.bool true) ∧ Below W.heap.size W W')) (HIN : Hid (∀ W, Calls Try.prog 21 #[.int .i64 w, .int .u64 x] W fun r W' => r = .returned (.bool true) ∧ Below W.heap.size W W')) :
    Calls Try.prog 18 #[.int .i64 w, .int .u64 x] W fun r W' => r = .returned (.tuple #[.int .i64 0, .bool false]) ∧ Below W.heap.size W W' := by
  go_enter Try.func18, Try.ntmps18
  go_wp2_with fail
  refine (unhide HKN _).mono ?_
  rintro _ w1 ⟨rfl, hb⟩
  have HB := hide hb
  clear hb
  go_wp2_with fail
  refine (unhide HIN _).mono ?_
  rintro _ w2 ⟨rfl, hb⟩
  have HB := hide (bthen (unhide HB) hb)
  clear hb
  go_wp2_with fail
  go_ret2
  exact ⟨rfl, unhide HB⟩
set_option maxRecDepth 100000 in
set_option maxHeartbeats 2000000 in
theorem rank_p {w x c Z A B : Int} (W : World) (HKN : Hid (∀ W, Calls Try.prog 26 #[.int .i64 w] W fun r W' => r = .returned (.bool true) ∧ Below W.heap.size W W')) (HIN : Hid (∀ W, Calls Try.prog 21 #[.int .i64 w, .int .u64 x] W fun r W' => r = .returned (.bool false) ∧ Below W.heap.size W W')) (HZ : Hid (∀ W, Calls Try.prog 38 #[.int .i64 w, .bool true] W fun r W' => r = .returned (.int .u64 Z) ∧ Below W.heap.size W W')) (HC : Hid (∀ W, Calls Try.prog 23 #[.int .i64 w, .int .u64 x] W fun r W' => r = .returned (.int .u64 c) ∧ Below W.heap.size W W')) (h1 : bits .andNot .u64 c Z = A) (h2 : IntKind.i64.wrap A = A) (h3 : bits .and .u64 c Z = B) (h4 : (B != 0) = false) :
    Calls Try.prog 18 #[.int .i64 w, .int .u64 x] W fun r W' => r = .returned (.tuple #[.int .i64 A, .bool true]) ∧ Below W.heap.size W W' := by
  go_enter Try.func18, Try.ntmps18
  go_wp2_with fail
  refine (unhide HKN _).mono ?_
  rintro _ w1 ⟨rfl, hb⟩
  have HB := hide hb
  clear hb
  go_wp2_with fail
  refine (unhide HIN _).mono ?_
  rintro _ w2 ⟨rfl, hb⟩
  have HB := hide (bthen (unhide HB) hb)
  clear hb
  go_wp2_with fail
  refine (unhide HZ _).mono ?_
  rintro _ w3 ⟨rfl, hb⟩
  have HB := hide (bthen (unhide HB) hb)
  clear hb
  go_wp2_with fail
  refine (unhide HC _).mono ?_
  rintro _ w4 ⟨rfl, hb⟩
  have HB := hide (bthen (unhide HB) hb)
  clear hb
  go_wp2_with fail
  go_ret2
  exact ⟨rfl, unhide HB⟩
set_option maxRecDepth 100000 in
set_option maxHeartbeats 2000000 in
theorem rank_m {w x c Z A B M : Int} (W : World) (HKN : Hid (∀ W, Calls Try.prog 26 #[.int .i64 w] W fun r W' => r = .returned (.bool true) ∧ Below W.heap.size W W')) (HIN : Hid (∀ W, Calls Try.prog 21 #[.int .i64 w, .int .u64 x] W fun r W' => r = .returned (.bool false) ∧ Below W.heap.size W W')) (HZ : Hid (∀ W, Calls Try.prog 38 #[.int .i64 w, .bool true] W fun r W' => r = .returned (.int .u64 Z) ∧ Below W.heap.size W W')) (HC : Hid (∀ W, Calls Try.prog 23 #[.int .i64 w, .int .u64 x] W fun r W' => r = .returned (.int .u64 c) ∧ Below W.heap.size W W')) (h1 : bits .andNot .u64 c Z = A) (h2 : IntKind.i64.wrap A = A) (h3 : bits .and .u64 c Z = B) (h4 : (B != 0) = true) (h5 : IntKind.i64.wrap (-A) = M) :
    Calls Try.prog 18 #[.int .i64 w, .int .u64 x] W fun r W' => r = .returned (.tuple #[.int .i64 M, .bool true]) ∧ Below W.heap.size W W' := by
  go_enter Try.func18, Try.ntmps18
  go_wp2_with fail
  refine (unhide HKN _).mono ?_
  rintro _ w1 ⟨rfl, hb⟩
  have HB := hide hb
  clear hb
  go_wp2_with fail
  refine (unhide HIN _).mono ?_
  rintro _ w2 ⟨rfl, hb⟩
  have HB := hide (bthen (unhide HB) hb)
  clear hb
  go_wp2_with fail
  refine (unhide HZ _).mono ?_
  rintro _ w3 ⟨rfl, hb⟩
  have HB := hide (bthen (unhide HB) hb)
  clear hb
  go_wp2_with fail
  refine (unhide HC _).mono ?_
  rintro _ w4 ⟨rfl, hb⟩
  have HB := hide (bthen (unhide HB) hb)
  clear hb
  go_wp2_with fail
  go_ret2
  exact ⟨rfl, unhide HB⟩

end Go.Proofs.Ytefpknkbfmjajaa
namespace Go.Proofs.Ytefpknkbfmjajaa
open Go.ChangeShapes Go.WideShapes Go.ChangeAt Go.RowKit Go.Joins
open Go.Proofs.Ytefpknkbfmjajaa.W

theorem Try.own : ownKnob Try.prog.godebug = none := by kernel_rfl
theorem word_of_wf {x : Int} (h : (Lit.int .u64 x).wf = true) : 0 ≤ x ∧ x < 18446744073709551616 := by
  simp [Lit.wf, IntKind.min, IntKind.max, IntKind.signed, IntKind.bits] at h
  exact ⟨by omega, by omega⟩

end Go.Proofs.Ytefpknkbfmjajaa
