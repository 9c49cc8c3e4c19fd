/- The contract of a float's bits, put together. -/
import Derived.Test.YtpbgpdmffejdgaaGreatDoorLeaf
import Derived.Test.YtpbgpdmffejdgaaGreatDoorTk
namespace Go.Proofs.YtpbgpdmffejdgaaGreatDoor
open Go.RowKit

theorem or_sum (k : Nat) (X Y : Int) (h0 : 0 ≤ X) (h1 : X < 18446744073709551616) (hm : X % ((2 ^ k : Nat) : Int) = 0) (y0 : 0 ≤ Y) (y1 : Y < ((2 ^ k : Nat) : Int)) (hk : k ≤ 63) : bits .or .u64 X Y = X + Y := by
  obtain ⟨A, rfl⟩ := Int.eq_ofNat_of_zero_le h0
  obtain ⟨B, rfl⟩ := Int.eq_ofNat_of_zero_le y0
  have hp : 2 ^ k ≤ 2 ^ 63 := Nat.pow_le_pow_right (by omega) hk
  rw [← Int.natCast_emod] at hm
  rw [Go.bits_or_u64_nat A B (by omega) (by omega), Go.nat_join k A B (by omega) (by omega), Int.natCast_add]
theorem or_sum' (k : Nat) (X Y : Int) (h0 : 0 ≤ X) (h1 : X < 18446744073709551616) (hm : X % ((2 ^ k : Nat) : Int) = 0) (y0 : 0 ≤ Y) (y1 : Y < ((2 ^ k : Nat) : Int)) (hk : k ≤ 63) : bits .or .u64 Y X = Y + X := by
  obtain ⟨A, rfl⟩ := Int.eq_ofNat_of_zero_le h0
  obtain ⟨B, rfl⟩ := Int.eq_ofNat_of_zero_le y0
  have hp : 2 ^ k ≤ 2 ^ 63 := Nat.pow_le_pow_right (by omega) hk
  rw [← Int.natCast_emod] at hm
  rw [Go.bits_or_u64_nat B A (by omega) (by omega), Nat.or_comm, Go.nat_join k A B (by omega) (by omega), Int.natCast_add, Int.add_comm]

theorem cells5 {W w1 : World} {v0 v1 v2 v3 v4 : Value} {t : TypeId} (hb : Below (W.alloc (.cells #[v0, v1, v2, v3, v4] t)).heap.size (W.alloc (.cells #[v0, v1, v2, v3, v4] t)) w1) : At5 W.heap.size v0 v1 v2 v3 v4 w1 :=
  At5.below (w := W.alloc (.cells #[v0, v1, v2, v3, v4] t)) (by unfold At5; simp [go_sem]) hb
theorem cells2 {W w1 : World} {v0 v1 : Value} {t : TypeId} (hb : Below (W.alloc (.cells #[v0, v1] t)).heap.size (W.alloc (.cells #[v0, v1] t)) w1) : At2 W.heap.size v0 v1 w1 :=
  At2.below (w := W.alloc (.cells #[v0, v1] t)) (by unfold At2; simp [go_sem]) hb

set_option maxHeartbeats 1000000 in
theorem bits_no (n : Bool) (x y : Int) (W : World) :
    Calls Tryz.prog 54 #[.agg #[.int .i64 0, .int .i64 0, .bool n, .int .u64 x, .int .u64 y]] W fun r W' => r = .returned (.int .u64 0) ∧ Below W.heap.size W W' := by
  go_enter Tryz.func54, Tryz.ntmps54
  go_wp2_with fail
  refine (known_any 0 0 _).mono ?_
  rintro _ w1 ⟨rfl, hb1⟩
  go_wp2_with fail
  go_ret
  exact ⟨rfl, bthen (below1 _ _) hb1⟩

set_option maxHeartbeats 2000000 in
theorem bits_32p (x y : Int) (W : World) (x0 : 0 ≤ x) (x1 : x < 256) (y0 : 0 ≤ y) (y1 : y < 8388608) :
    Calls Tryz.prog 54 #[.agg #[.int .i64 8, .int .i64 23, .bool false, .int .u64 x, .int .u64 y]] W fun r W' => r = .returned (.int .u64 (x * 8388608 + y)) ∧ Below W.heap.size W W' := by
  have k1 : IntKind.u64.wrap (x * 8388608) = x * 8388608 := by rw [IntKind.wrap_u64]; omega
  have o1 : bits .or .u64 (x * 8388608) y = x * 8388608 + y := or_sum 23 _ _ (by omega) (by omega) (by omega) (by omega) (by omega) (by omega)
  clear x0 x1 y0 y1
  go_enter Tryz.func54, Tryz.ntmps54
  go_wp2_with fail
  refine (known_any 8 23 _).mono ?_
  rintro _ w1 ⟨rfl, hb1⟩
  obtain ⟨q0, q1, q2, q3, q4⟩ := cells5 hb1
  have HB := hide (bthen (below1 _ _) hb1)
  clear hb1
  go_wp2_with fail
  refine wp_region_held_drew (S := fun w' => w'.cell? ⟨W.heap.size, 0, none⟩ = some (.int .i64 8) ∧ w'.cell? ⟨W.heap.size, 1, none⟩ = some (.int .i64 23) ∧ w'.cell? ⟨W.heap.size, 2, none⟩ = some (.bool false) ∧ w'.cell? ⟨W.heap.size, 3, none⟩ = some (.int .u64 x) ∧ w'.cell? ⟨W.heap.size, 4, none⟩ = some (.int .u64 y)) (by kernel_rfl) ?_ (fun hHeld => ?_)
  · (try dsimp only)
    simp [go_sem, q0, q1, q2, q3, q4]
  refine lst0 10 (by kernel_rfl) ?_
  refine tkA 0 8 1 ?_
  refine tkA 1 9 3 ?_
  refine tkA 2 10 7 ?_
  refine tkA 3 11 15 ?_
  refine tkA 4 12 31 ?_
  refine tkA 5 13 63 ?_
  refine tkA 6 14 127 ?_
  refine tkA 7 15 255 ?_
  refine tkA 8 16 511 ?_
  refine tkA 9 3 1023 ?_
  refine wpAnyH_done (by kernel_rfl) ?_ _
  go_wp2_with fail
  go_ret
  exact ⟨rfl, (unhide HB).drew⟩

set_option maxHeartbeats 2000000 in
theorem bits_32m (x y : Int) (W : World) (x0 : 0 ≤ x) (x1 : x < 256) (y0 : 0 ≤ y) (y1 : y < 8388608) :
    Calls Tryz.prog 54 #[.agg #[.int .i64 8, .int .i64 23, .bool true, .int .u64 x, .int .u64 y]] W fun r W' => r = .returned (.int .u64 (x * 8388608 + y + 2147483648)) ∧ Below W.heap.size W W' := by
  have k1 : IntKind.u64.wrap (x * 8388608) = x * 8388608 := by rw [IntKind.wrap_u64]; omega
  have o1 : bits .or .u64 (x * 8388608) y = x * 8388608 + y := or_sum 23 _ _ (by omega) (by omega) (by omega) (by omega) (by omega) (by omega)
  have k2 : IntKind.i64.wrap 31 = 31 := by decide +kernel
  have o2 : bits .or .u64 (x * 8388608 + y) 2147483648 = x * 8388608 + y + 2147483648 := or_sum' 31 _ _ (by omega) (by omega) (by omega) (by omega) (by omega) (by omega)
  clear x0 x1 y0 y1
  go_enter Tryz.func54, Tryz.ntmps54
  go_wp2_with fail
  refine (known_any 8 23 _).mono ?_
  rintro _ w1 ⟨rfl, hb1⟩
  obtain ⟨q0, q1, q2, q3, q4⟩ := cells5 hb1
  have HB := hide (bthen (below1 _ _) hb1)
  clear hb1
  go_wp2_with fail
  refine wp_region_held_drew (S := fun w' => w'.cell? ⟨W.heap.size, 0, none⟩ = some (.int .i64 8) ∧ w'.cell? ⟨W.heap.size, 1, none⟩ = some (.int .i64 23) ∧ w'.cell? ⟨W.heap.size, 2, none⟩ = some (.bool true) ∧ w'.cell? ⟨W.heap.size, 3, none⟩ = some (.int .u64 x) ∧ w'.cell? ⟨W.heap.size, 4, none⟩ = some (.int .u64 y)) (by kernel_rfl) ?_ (fun hHeld => ?_)
  · (try dsimp only)
    simp [go_sem, q0, q1, q2, q3, q4]
  refine lst0 10 (by kernel_rfl) ?_
  refine tkA 0 8 1 ?_
  refine tkA 1 9 3 ?_
  refine tkA 2 10 7 ?_
  refine tkA 3 11 15 ?_
  refine tkA 4 12 31 ?_
  refine tkA 5 13 63 ?_
  refine tkA 6 14 127 ?_
  refine tkA 7 15 255 ?_
  refine tkA 8 16 511 ?_
  refine tkA 9 3 1023 ?_
  refine wpAnyH_done (by kernel_rfl) ?_ _
  go_wp2_with fail
  go_ret
  exact ⟨rfl, (unhide HB).drew⟩

set_option maxHeartbeats 2000000 in
theorem bits_64p (x y : Int) (W : World) (x0 : 0 ≤ x) (x1 : x < 2048) (y0 : 0 ≤ y) (y1 : y < 4503599627370496) :
    Calls Tryz.prog 54 #[.agg #[.int .i64 11, .int .i64 52, .bool false, .int .u64 x, .int .u64 y]] W fun r W' => r = .returned (.int .u64 (x * 4503599627370496 + y)) ∧ Below W.heap.size W W' := by
  have k1 : IntKind.u64.wrap (x * 4503599627370496) = x * 4503599627370496 := by rw [IntKind.wrap_u64]; omega
  have o1 : bits .or .u64 (x * 4503599627370496) y = x * 4503599627370496 + y := or_sum 52 _ _ (by omega) (by omega) (by omega) (by omega) (by omega) (by omega)
  clear x0 x1 y0 y1
  go_enter Tryz.func54, Tryz.ntmps54
  go_wp2_with fail
  refine (known_any 11 52 _).mono ?_
  rintro _ w1 ⟨rfl, hb1⟩
  obtain ⟨q0, q1, q2, q3, q4⟩ := cells5 hb1
  have HB := hide (bthen (below1 _ _) hb1)
  clear hb1
  go_wp2_with fail
  refine wp_region_held_drew (S := fun w' => w'.cell? ⟨W.heap.size, 0, none⟩ = some (.int .i64 11) ∧ w'.cell? ⟨W.heap.size, 1, none⟩ = some (.int .i64 52) ∧ w'.cell? ⟨W.heap.size, 2, none⟩ = some (.bool false) ∧ w'.cell? ⟨W.heap.size, 3, none⟩ = some (.int .u64 x) ∧ w'.cell? ⟨W.heap.size, 4, none⟩ = some (.int .u64 y)) (by kernel_rfl) ?_ (fun hHeld => ?_)
  · (try dsimp only)
    simp [go_sem, q0, q1, q2, q3, q4]
  refine lst0 10 (by kernel_rfl) ?_
  refine tkA 0 8 1 ?_
  refine tkA 1 9 3 ?_
  refine tkA 2 10 7 ?_
  refine tkA 3 11 15 ?_
  refine tkA 4 12 31 ?_
  refine tkA 5 13 63 ?_
  refine tkA 6 14 127 ?_
  refine tkA 7 15 255 ?_
  refine tkA 8 16 511 ?_
  refine tkA 9 3 1023 ?_
  refine wpAnyH_done (by kernel_rfl) ?_ _
  go_wp2_with fail
  go_ret
  exact ⟨rfl, (unhide HB).drew⟩

set_option maxHeartbeats 2000000 in
theorem bits_64m (x y : Int) (W : World) (x0 : 0 ≤ x) (x1 : x < 2048) (y0 : 0 ≤ y) (y1 : y < 4503599627370496) :
    Calls Tryz.prog 54 #[.agg #[.int .i64 11, .int .i64 52, .bool true, .int .u64 x, .int .u64 y]] W fun r W' => r = .returned (.int .u64 (x * 4503599627370496 + y + 9223372036854775808)) ∧ Below W.heap.size W W' := by
  have k1 : IntKind.u64.wrap (x * 4503599627370496) = x * 4503599627370496 := by rw [IntKind.wrap_u64]; omega
  have o1 : bits .or .u64 (x * 4503599627370496) y = x * 4503599627370496 + y := or_sum 52 _ _ (by omega) (by omega) (by omega) (by omega) (by omega) (by omega)
  have k2 : IntKind.i64.wrap 63 = 63 := by decide +kernel
  have o2 : bits .or .u64 (x * 4503599627370496 + y) 9223372036854775808 = x * 4503599627370496 + y + 9223372036854775808 := or_sum' 63 _ _ (by omega) (by omega) (by omega) (by omega) (by omega) (by omega)
  clear x0 x1 y0 y1
  go_enter Tryz.func54, Tryz.ntmps54
  go_wp2_with fail
  refine (known_any 11 52 _).mono ?_
  rintro _ w1 ⟨rfl, hb1⟩
  obtain ⟨q0, q1, q2, q3, q4⟩ := cells5 hb1
  have HB := hide (bthen (below1 _ _) hb1)
  clear hb1
  go_wp2_with fail
  refine wp_region_held_drew (S := fun w' => w'.cell? ⟨W.heap.size, 0, none⟩ = some (.int .i64 11) ∧ w'.cell? ⟨W.heap.size, 1, none⟩ = some (.int .i64 52) ∧ w'.cell? ⟨W.heap.size, 2, none⟩ = some (.bool true) ∧ w'.cell? ⟨W.heap.size, 3, none⟩ = some (.int .u64 x) ∧ w'.cell? ⟨W.heap.size, 4, none⟩ = some (.int .u64 y)) (by kernel_rfl) ?_ (fun hHeld => ?_)
  · (try dsimp only)
    simp [go_sem, q0, q1, q2, q3, q4]
  refine lst0 10 (by kernel_rfl) ?_
  refine tkA 0 8 1 ?_
  refine tkA 1 9 3 ?_
  refine tkA 2 10 7 ?_
  refine tkA 3 11 15 ?_
  refine tkA 4 12 31 ?_
  refine tkA 5 13 63 ?_
  refine tkA 6 14 127 ?_
  refine tkA 7 15 255 ?_
  refine tkA 8 16 511 ?_
  refine tkA 9 3 1023 ?_
  refine wpAnyH_done (by kernel_rfl) ?_ _
  go_wp2_with fail
  go_ret
  exact ⟨rfl, (unhide HB).drew⟩

end Go.Proofs.YtpbgpdmffejdgaaGreatDoor
