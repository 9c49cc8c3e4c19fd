/- Bits, Ends, Ref. -/
import Derived.Test.YtmbkpmcmhmldgaaT01
namespace Go.Proofs.Ytmbkpmcmhmldgaa
open Go.RowKit

theorem or_sum (k : Nat) (X Y : Int) (h0 : 0 ≤ X) (h1 : X < 18446744073709551616) (hm : X % ((2 ^ k : Nat) : Int) = 0) (y0 : 0 ≤ Y) (y1 : Y < ((2 ^ k : Nat) : Int)) (hk : k ≤ 63) : bits .or .u64 X Y = X + Y := by
  obtain ⟨A, rfl⟩ := Int.eq_ofNat_of_zero_le h0
  obtain ⟨B, rfl⟩ := Int.eq_ofNat_of_zero_le y0
  have hp : 2 ^ k ≤ 2 ^ 63 := Nat.pow_le_pow_right (by omega) hk
  rw [← Int.natCast_emod] at hm
  rw [Go.bits_or_u64_nat A B (by omega) (by omega), Go.nat_join k A B (by omega) (by omega), Int.natCast_add]
theorem or_sum' (k : Nat) (X Y : Int) (h0 : 0 ≤ X) (h1 : X < 18446744073709551616) (hm : X % ((2 ^ k : Nat) : Int) = 0) (y0 : 0 ≤ Y) (y1 : Y < ((2 ^ k : Nat) : Int)) (hk : k ≤ 63) : bits .or .u64 Y X = Y + X := by
  obtain ⟨A, rfl⟩ := Int.eq_ofNat_of_zero_le h0
  obtain ⟨B, rfl⟩ := Int.eq_ofNat_of_zero_le y0
  have hp : 2 ^ k ≤ 2 ^ 63 := Nat.pow_le_pow_right (by omega) hk
  rw [← Int.natCast_emod] at hm
  rw [Go.bits_or_u64_nat B A (by omega) (by omega), Nat.or_comm, Go.nat_join k A B (by omega) (by omega), Int.natCast_add, Int.add_comm]

theorem cells5 {W w1 : World} {v0 v1 v2 v3 v4 : Value} {t : TypeId} (hb : Below (W.alloc (.cells #[v0, v1, v2, v3, v4] t)).heap.size (W.alloc (.cells #[v0, v1, v2, v3, v4] t)) w1) : At5 W.heap.size v0 v1 v2 v3 v4 w1 :=
  At5.below (w := W.alloc (.cells #[v0, v1, v2, v3, v4] t)) (by unfold At5; simp [go_sem]) hb
set_option maxHeartbeats 1000000 in
theorem bits_no (n : Bool) (x y : Int) (W : World) :
    Calls Try.prog 32 #[.agg #[.int .i64 0, .int .i64 0, .bool n, .int .u64 x, .int .u64 y]] W fun r W' => r = .returned (.int .u64 0) ∧ Below W.heap.size W W' := by
  go_enter Try.func32, Try.ntmps32
  go_wp2_with fail
  refine (known_any 0 0 _).mono ?_
  rintro _ w1 ⟨rfl, hb1⟩
  go_wp2_with fail
  go_ret
  exact ⟨rfl, bthen (below1 _ _) hb1⟩

set_option maxHeartbeats 2000000 in
theorem bits_32p (x y : Int) (W : World) (x0 : 0 ≤ x) (x1 : x < 256) (y0 : 0 ≤ y) (y1 : y < 8388608) :
    Calls Try.prog 32 #[.agg #[.int .i64 8, .int .i64 23, .bool false, .int .u64 x, .int .u64 y]] W fun r W' => r = .returned (.int .u64 (x * 8388608 + y)) ∧ Below W.heap.size W W' := by
  have k1 : IntKind.u64.wrap (x * 8388608) = x * 8388608 := by rw [IntKind.wrap_u64]; omega
  have o1 : bits .or .u64 (x * 8388608) y = x * 8388608 + y := or_sum 23 _ _ (by omega) (by omega) (by omega) (by omega) (by omega) (by omega)
  clear x0 x1 y0 y1
  go_enter Try.func32, Try.ntmps32
  go_wp2_with fail
  refine (known_any 8 23 _).mono ?_
  rintro _ w1 ⟨rfl, hb1⟩
  obtain ⟨q0, q1, q2, q3, q4⟩ := cells5 hb1
  have HB := hide (bthen (below1 _ _) hb1)
  clear hb1
  go_wp2_with fail
  refine wp_region_held_drew (S := fun w' => w'.cell? ⟨W.heap.size, 0, none⟩ = some (.int .i64 8) ∧ w'.cell? ⟨W.heap.size, 1, none⟩ = some (.int .i64 23) ∧ w'.cell? ⟨W.heap.size, 2, none⟩ = some (.bool false) ∧ w'.cell? ⟨W.heap.size, 3, none⟩ = some (.int .u64 x) ∧ w'.cell? ⟨W.heap.size, 4, none⟩ = some (.int .u64 y)) (by kernel_rfl) ?_ (fun hHeld => ?_)
  · (try dsimp only)
    simp [go_sem, q0, q1, q2, q3, q4]
  refine lst0 10 (by kernel_rfl) ?_
  refine tkA 0 8 1 ?_
  refine tkA 1 9 3 ?_
  refine tkA 2 10 7 ?_
  refine tkA 3 11 15 ?_
  refine tkA 4 12 31 ?_
  refine tkA 5 13 63 ?_
  refine tkA 6 14 127 ?_
  refine tkA 7 15 255 ?_
  refine tkA 8 16 511 ?_
  refine tkA 9 3 1023 ?_
  refine wpAnyH_done (by kernel_rfl) ?_ _
  go_wp2_with fail
  go_ret
  exact ⟨rfl, (unhide HB).drew⟩

set_option maxHeartbeats 2000000 in
theorem bits_32m (x y : Int) (W : World) (x0 : 0 ≤ x) (x1 : x < 256) (y0 : 0 ≤ y) (y1 : y < 8388608) :
    Calls Try.prog 32 #[.agg #[.int .i64 8, .int .i64 23, .bool true, .int .u64 x, .int .u64 y]] W fun r W' => r = .returned (.int .u64 (x * 8388608 + y + 2147483648)) ∧ Below W.heap.size W W' := by
  have k1 : IntKind.u64.wrap (x * 8388608) = x * 8388608 := by rw [IntKind.wrap_u64]; omega
  have o1 : bits .or .u64 (x * 8388608) y = x * 8388608 + y := or_sum 23 _ _ (by omega) (by omega) (by omega) (by omega) (by omega) (by omega)
  have k2 : IntKind.i64.wrap 31 = 31 := by decide +kernel
  have o2 : bits .or .u64 (x * 8388608 + y) 2147483648 = x * 8388608 + y + 2147483648 := or_sum' 31 _ _ (by omega) (by omega) (by omega) (by omega) (by omega) (by omega)
  clear x0 x1 y0 y1
  go_enter Try.func32, Try.ntmps32
  go_wp2_with fail
  refine (known_any 8 23 _).mono ?_
  rintro _ w1 ⟨rfl, hb1⟩
  obtain ⟨q0, q1, q2, q3, q4⟩ := cells5 hb1
  have HB := hide (bthen (below1 _ _) hb1)
  clear hb1
  go_wp2_with fail
  refine wp_region_held_drew (S := fun w' => w'.cell? ⟨W.heap.size, 0, none⟩ = some (.int .i64 8) ∧ w'.cell? ⟨W.heap.size, 1, none⟩ = some (.int .i64 23) ∧ w'.cell? ⟨W.heap.size, 2, none⟩ = some (.bool true) ∧ w'.cell? ⟨W.heap.size, 3, none⟩ = some (.int .u64 x) ∧ w'.cell? ⟨W.heap.size, 4, none⟩ = some (.int .u64 y)) (by kernel_rfl) ?_ (fun hHeld => ?_)
  · (try dsimp only)
    simp [go_sem, q0, q1, q2, q3, q4]
  refine lst0 10 (by kernel_rfl) ?_
  refine tkA 0 8 1 ?_
  refine tkA 1 9 3 ?_
  refine tkA 2 10 7 ?_
  refine tkA 3 11 15 ?_
  refine tkA 4 12 31 ?_
  refine tkA 5 13 63 ?_
  refine tkA 6 14 127 ?_
  refine tkA 7 15 255 ?_
  refine tkA 8 16 511 ?_
  refine tkA 9 3 1023 ?_
  refine wpAnyH_done (by kernel_rfl) ?_ _
  go_wp2_with fail
  go_ret
  exact ⟨rfl, (unhide HB).drew⟩

set_option maxHeartbeats 2000000 in
theorem bits_64p (x y : Int) (W : World) (x0 : 0 ≤ x) (x1 : x < 2048) (y0 : 0 ≤ y) (y1 : y < 4503599627370496) :
    Calls Try.prog 32 #[.agg #[.int .i64 11, .int .i64 52, .bool false, .int .u64 x, .int .u64 y]] W fun r W' => r = .returned (.int .u64 (x * 4503599627370496 + y)) ∧ Below W.heap.size W W' := by
  have k1 : IntKind.u64.wrap (x * 4503599627370496) = x * 4503599627370496 := by rw [IntKind.wrap_u64]; omega
  have o1 : bits .or .u64 (x * 4503599627370496) y = x * 4503599627370496 + y := or_sum 52 _ _ (by omega) (by omega) (by omega) (by omega) (by omega) (by omega)
  clear x0 x1 y0 y1
  go_enter Try.func32, Try.ntmps32
  go_wp2_with fail
  refine (known_any 11 52 _).mono ?_
  rintro _ w1 ⟨rfl, hb1⟩
  obtain ⟨q0, q1, q2, q3, q4⟩ := cells5 hb1
  have HB := hide (bthen (below1 _ _) hb1)
  clear hb1
  go_wp2_with fail
  refine wp_region_held_drew (S := fun w' => w'.cell? ⟨W.heap.size, 0, none⟩ = some (.int .i64 11) ∧ w'.cell? ⟨W.heap.size, 1, none⟩ = some (.int .i64 52) ∧ w'.cell? ⟨W.heap.size, 2, none⟩ = some (.bool false) ∧ w'.cell? ⟨W.heap.size, 3, none⟩ = some (.int .u64 x) ∧ w'.cell? ⟨W.heap.size, 4, none⟩ = some (.int .u64 y)) (by kernel_rfl) ?_ (fun hHeld => ?_)
  · (try dsimp only)
    simp [go_sem, q0, q1, q2, q3, q4]
  refine lst0 10 (by kernel_rfl) ?_
  refine tkA 0 8 1 ?_
  refine tkA 1 9 3 ?_
  refine tkA 2 10 7 ?_
  refine tkA 3 11 15 ?_
  refine tkA 4 12 31 ?_
  refine tkA 5 13 63 ?_
  refine tkA 6 14 127 ?_
  refine tkA 7 15 255 ?_
  refine tkA 8 16 511 ?_
  refine tkA 9 3 1023 ?_
  refine wpAnyH_done (by kernel_rfl) ?_ _
  go_wp2_with fail
  go_ret
  exact ⟨rfl, (unhide HB).drew⟩

set_option maxHeartbeats 2000000 in
theorem bits_64m (x y : Int) (W : World) (x0 : 0 ≤ x) (x1 : x < 2048) (y0 : 0 ≤ y) (y1 : y < 4503599627370496) :
    Calls Try.prog 32 #[.agg #[.int .i64 11, .int .i64 52, .bool true, .int .u64 x, .int .u64 y]] W fun r W' => r = .returned (.int .u64 (x * 4503599627370496 + y + 9223372036854775808)) ∧ Below W.heap.size W W' := by
  have k1 : IntKind.u64.wrap (x * 4503599627370496) = x * 4503599627370496 := by rw [IntKind.wrap_u64]; omega
  have o1 : bits .or .u64 (x * 4503599627370496) y = x * 4503599627370496 + y := or_sum 52 _ _ (by omega) (by omega) (by omega) (by omega) (by omega) (by omega)
  have k2 : IntKind.i64.wrap 63 = 63 := by decide +kernel
  have o2 : bits .or .u64 (x * 4503599627370496 + y) 9223372036854775808 = x * 4503599627370496 + y + 9223372036854775808 := or_sum' 63 _ _ (by omega) (by omega) (by omega) (by omega) (by omega) (by omega)
  clear x0 x1 y0 y1
  go_enter Try.func32, Try.ntmps32
  go_wp2_with fail
  refine (known_any 11 52 _).mono ?_
  rintro _ w1 ⟨rfl, hb1⟩
  obtain ⟨q0, q1, q2, q3, q4⟩ := cells5 hb1
  have HB := hide (bthen (below1 _ _) hb1)
  clear hb1
  go_wp2_with fail
  refine wp_region_held_drew (S := fun w' => w'.cell? ⟨W.heap.size, 0, none⟩ = some (.int .i64 11) ∧ w'.cell? ⟨W.heap.size, 1, none⟩ = some (.int .i64 52) ∧ w'.cell? ⟨W.heap.size, 2, none⟩ = some (.bool true) ∧ w'.cell? ⟨W.heap.size, 3, none⟩ = some (.int .u64 x) ∧ w'.cell? ⟨W.heap.size, 4, none⟩ = some (.int .u64 y)) (by kernel_rfl) ?_ (fun hHeld => ?_)
  · (try dsimp only)
    simp [go_sem, q0, q1, q2, q3, q4]
  refine lst0 10 (by kernel_rfl) ?_
  refine tkA 0 8 1 ?_
  refine tkA 1 9 3 ?_
  refine tkA 2 10 7 ?_
  refine tkA 3 11 15 ?_
  refine tkA 4 12 31 ?_
  refine tkA 5 13 63 ?_
  refine tkA 6 14 127 ?_
  refine tkA 7 15 255 ?_
  refine tkA 8 16 511 ?_
  refine tkA 9 3 1023 ?_
  refine wpAnyH_done (by kernel_rfl) ?_ _
  go_wp2_with fail
  go_ret
  exact ⟨rfl, (unhide HB).drew⟩

end Go.Proofs.Ytmbkpmcmhmldgaa
namespace Go.Proofs.Ytmbkpmcmhmldgaa
open Go.RowKit

/-- A float of its fields; 0 of what is no width. -/
def put (f P Q : Int) (n : Bool) (x y : Int) : Int := if f = 0 then 0 else x * P + y + (if n then P * Q else 0)
/-- The sign's bit of a float. -/
def sg (P Q x : Int) : Bool := x / (P * Q) % 2 == 1

theorem take_any {w e f P Q b : Int} (x : Int) (h : Wd w e f P Q b) (W : World) (h0 : 0 ≤ x) (h1 : x < 18446744073709551616) :
    Calls Try.prog 31 #[.int .i64 w, .int .u64 x] W fun r W' => r = .returned (.agg #[.int .i64 e, .int .i64 f, .bool (sg P Q x), .int .u64 (x / P % Q), .int .u64 (x % P)]) ∧ Below W.heap.size W W' := by
  unfold sg
  rcases h with ⟨rfl, rfl, rfl, rfl, rfl, rfl⟩ | ⟨rfl, rfl, rfl, rfl, rfl, rfl⟩ | ⟨hw, rfl, rfl, rfl, rfl, rfl⟩
  · exact take_32 x W h0 h1
  · exact take_64 x W h0 h1
  · rw [Int.emod_one, Int.emod_one, Int.mul_one, Int.ediv_one]
    exact take_no w x W h0 h1 hw

theorem bits_any {e f P Q b : Int} (n : Bool) (x y : Int) (h : Sz e f P Q b) (W : World) (x0 : 0 ≤ x) (x1 : x < Q) (y0 : 0 ≤ y) (y1 : y < P) :
    Calls Try.prog 32 #[.agg #[.int .i64 e, .int .i64 f, .bool n, .int .u64 x, .int .u64 y]] W fun r W' => r = .returned (.int .u64 (put f P Q n x y)) ∧ Below W.heap.size W W' := by
  unfold put
  rcases h with ⟨rfl, rfl, rfl, rfl, rfl⟩ | ⟨rfl, rfl, rfl, rfl, rfl⟩ | ⟨rfl, rfl, rfl, rfl, rfl⟩
  · cases n
    · simpa using bits_32p x y W x0 x1 y0 y1
    · simpa using bits_32m x y W x0 x1 y0 y1
  · cases n
    · simpa using bits_64p x y W x0 x1 y0 y1
    · simpa using bits_64m x y W x0 x1 y0 y1
  · simpa using bits_no n x y W

theorem Sz.pos {e f P Q b : Int} (h : Sz e f P Q b) : 1 ≤ P ∧ P ≤ 4503599627370496 ∧ 1 ≤ Q ∧ Q ≤ 2048 := by rcases h with h | h | h <;> omega
theorem exp_in {Q : Int} (z : Int) (h : 1 ≤ Q) : 0 ≤ z % Q ∧ z % Q < Q := ⟨Int.emod_nonneg _ (by omega), Int.emod_lt_of_pos _ (by omega)⟩

/-- The lowest bits of a float's width. -/
def cutN (f P Q x : Int) : Int := if f = 0 then 0 else x % (2 * (P * Q))
theorem cut_put {e f P Q b : Int} (h : Sz e f P Q b) (x : Int) : put f P Q (sg P Q x) (x / P % Q) (x % P) = cutN f P Q x := by
  unfold put cutN sg
  rcases h with ⟨rfl, rfl, rfl, rfl, rfl⟩ | ⟨rfl, rfl, rfl, rfl, rfl⟩ | ⟨rfl, rfl, rfl, rfl, rfl⟩
  · show (if (23 : Int) = 0 then (0 : Int) else x / 8388608 % 256 * 8388608 + x % 8388608 + (if (x / 2147483648 % 2 == 1) = true then 2147483648 else 0)) = if (23 : Int) = 0 then 0 else x % 4294967296
    rw [if_neg (show ¬ (23 : Int) = 0 by decide), if_neg (show ¬ (23 : Int) = 0 by decide)]
    by_cases hn : x / 2147483648 % 2 = 1
    · rw [if_pos (by rw [hn]; rfl)]; omega
    · rw [if_neg (by simp [hn])]; omega
  · show (if (52 : Int) = 0 then (0 : Int) else x / 4503599627370496 % 2048 * 4503599627370496 + x % 4503599627370496 + (if (x / 9223372036854775808 % 2 == 1) = true then 9223372036854775808 else 0)) = if (52 : Int) = 0 then 0 else x % 18446744073709551616
    rw [if_neg (show ¬ (52 : Int) = 0 by decide), if_neg (show ¬ (52 : Int) = 0 by decide)]
    by_cases hn : x / 9223372036854775808 % 2 = 1
    · rw [if_pos (by rw [hn]; rfl)]; omega
    · rw [if_neg (by simp [hn])]; omega
  · rfl

set_option maxHeartbeats 1000000 in
theorem cut_any {w e f P Q b : Int} (x : Int) (h : Wd w e f P Q b) (W : World) (h0 : 0 ≤ x) (h1 : x < 18446744073709551616) :
    Calls Try.prog 15 #[.int .i64 w, .int .u64 x] W fun r W' => r = .returned (.int .u64 (cutN f P Q x)) ∧ Below W.heap.size W W' := by
  obtain ⟨p1, p2, p3, p4⟩ := h.sz.pos
  have E := exp_in (x / P) p3
  have F := exp_in x p1
  have HT := hide (fun W => take_any x h W h0 h1)
  have HC := hide (fun W => bits_any (sg P Q x) _ _ h.sz W E.1 E.2 F.1 F.2)
  have HE := hide (cut_put h.sz x)
  clear h0 h1 p1 p2 p3 p4 E F h
  generalize sg P Q x = n at *
  generalize x / P % Q = y at *
  generalize x % P = z at *
  go_enter Try.func15, Try.ntmps15
  go_wp2_with fail
  refine (unhide HT _).mono ?_
  rintro _ w1 ⟨rfl, hb1⟩
  go_wp2_with fail
  refine (unhide HC _).mono ?_
  rintro _ w2 ⟨rfl, hb2⟩
  go_wp2_with fail
  go_ret
  exact ⟨ret1 (unhide HE), bthen hb1 hb2⟩

set_option maxHeartbeats 1000000 in
theorem fields_any {w e f P Q b : Int} (h : Wd w e f P Q b) (W : World) :
    Calls Try.prog 42 #[.int .i64 w] W fun r W' => r = .returned (.tuple #[.int .i64 e, .int .i64 f]) ∧ Below W.heap.size W W' := by
  go_enter Try.func42, Try.ntmps42
  go_wp2_with fail
  refine (sizesOf_any h _).mono ?_
  rintro _ w1 ⟨rfl, hb1⟩
  have HB := hide (balloc hb1 (.cells #[.int .i64 e, .int .i64 f] 65)).drew
  go_wp2_with fail
  refine wp_region_held_drew (S := fun w' => w'.cell? ⟨w1.heap.size, 0, none⟩ = some (.int .i64 e) ∧ w'.cell? ⟨w1.heap.size, 1, none⟩ = some (.int .i64 f)) (by kernel_rfl) ?_ (fun hHeld => ?_)
  · (try dsimp only)
    simp [go_sem]
  refine lst0 6 (by kernel_rfl) ?_
  refine tkA 0 7 1 ?_
  refine tkA 1 8 3 ?_
  refine tkA 2 9 7 ?_
  refine tkA 3 10 15 ?_
  refine tkA 4 2 31 ?_
  refine tkA 5 3 63 ?_
  refine wpAnyH_done (by kernel_rfl) ?_ _
  go_wp2_with fail
  go_ret2
  exact ⟨rfl, unhide HB⟩

end Go.Proofs.Ytmbkpmcmhmldgaa
namespace Go.Proofs.Ytmbkpmcmhmldgaa
open Go.RowKit

/-- A width that is one. -/
def Kd (w e f P Q b : Int) : Prop := (w = 32 ∧ e = 8 ∧ f = 23 ∧ P = 8388608 ∧ Q = 256 ∧ b = 127) ∨ (w = 64 ∧ e = 11 ∧ f = 52 ∧ P = 4503599627370496 ∧ Q = 2048 ∧ b = 1023)
theorem Kd.wd {w e f P Q b : Int} (h : Kd w e f P Q b) : Wd w e f P Q b := by
  rcases h with h | h
  · exact Or.inl h
  · exact Or.inr (Or.inl h)
theorem Wd.known {w e f P Q b : Int} (h : Wd w e f P Q b) (hf : f ≠ 0) : Kd w e f P Q b := by
  rcases h with h | h | h
  · exact Or.inl h
  · exact Or.inr h
  · exact absurd h.2.2.1 hf
theorem Kd.f0 {w e f P Q b : Int} (h : Kd w e f P Q b) : f ≠ 0 := by rcases h with h | h <;> omega

set_option maxHeartbeats 400000 in
theorem refKnown_any {w e f P Q b : Int} (h : Wd w e f P Q b) (W : World) :
    Calls Try.prog 9 #[.int .i64 w] W fun r W' => r = .returned (.bool (f != 0)) ∧ Below W.heap.size W W' := by
  rcases h with ⟨rfl, rfl, rfl, rfl, rfl, rfl⟩ | ⟨rfl, rfl, rfl, rfl, rfl, rfl⟩ | ⟨⟨h1, h2⟩, rfl, rfl, rfl, rfl, rfl⟩
  · go_enter Try.func9, Try.ntmps9
    go_wp2
    go_ret
    exact ⟨rfl, by first | exact Below.refl _ _ | exact (Below.refl _ _).drew⟩
  · go_enter Try.func9, Try.ntmps9
    go_wp2
    go_ret
    exact ⟨rfl, by first | exact Below.refl _ _ | exact (Below.refl _ _).drew⟩
  · have c1 : (w == 32) = false := by simp [h1]
    have c2 : (w == 64) = false := by simp [h2]
    go_enter Try.func9, Try.ntmps9
    go_wp2
    go_ret
    exact ⟨rfl, by first | exact Below.refl _ _ | exact (Below.refl _ _).drew⟩

set_option maxHeartbeats 400000 in
theorem refE_any {w e f P Q b : Int} (h : Kd w e f P Q b) (W : World) :
    Calls Try.prog 53 #[.int .i64 w] W fun r W' => r = .returned (.int .i64 e) ∧ Below W.heap.size W W' := by
  rcases h with ⟨rfl, rfl, rfl, rfl, rfl, rfl⟩ | ⟨rfl, rfl, rfl, rfl, rfl, rfl⟩
  all_goals
    go_enter Try.func53, Try.ntmps53
    go_wp2
    go_ret
    exact ⟨rfl, Below.refl _ _⟩

set_option maxHeartbeats 400000 in
theorem refB_any {w e f P Q b : Int} (h : Kd w e f P Q b) (W : World) :
    Calls Try.prog 37 #[.int .i64 w] W fun r W' => r = .returned (.int .i64 b) ∧ Below W.heap.size W W' := by
  rcases h with ⟨rfl, rfl, rfl, rfl, rfl, rfl⟩ | ⟨rfl, rfl, rfl, rfl, rfl, rfl⟩
  all_goals
    go_enter Try.func37, Try.ntmps37
    go_wp2
    go_ret
    exact ⟨rfl, Below.refl _ _⟩

set_option maxHeartbeats 400000 in
theorem refF_any {w e f P Q b : Int} (h : Kd w e f P Q b) (W : World) :
    Calls Try.prog 38 #[.int .i64 w] W fun r W' => r = .returned (.int .i64 f) ∧ Below W.heap.size W W' := by
  have HE := hide (fun W => refE_any h W)
  rcases h with ⟨rfl, rfl, rfl, rfl, rfl, rfl⟩ | ⟨rfl, rfl, rfl, rfl, rfl, rfl⟩
  all_goals
    go_enter Try.func38, Try.ntmps38
    go_wp2_with fail
    refine (unhide HE _).mono ?_
    rintro _ w1 ⟨rfl, hb1⟩
    go_wp2
    go_ret
    exact ⟨rfl, hb1⟩

theorem pow_le63 {k : Nat} (h : k ≤ 63) : ((2 ^ k : Nat) : Int) ≤ 9223372036854775808 := by
  have : 2 ^ k ≤ 2 ^ 63 := Nat.pow_le_pow_right (by omega) h
  omega
set_option maxHeartbeats 1000000 in
theorem two_any (n T : Int) (W : World) (h0 : 0 ≤ n) (h1 : n ≤ 63) (hT : ((2 ^ n.toNat : Nat) : Int) = T) :
    Calls Try.prog 16 #[.int .i64 n] W fun r W' => r = .returned (.int .u64 T) ∧ Below W.heap.size W W' := by
  have HT := hide hT
  clear hT
  go_enter Try.func16, Try.ntmps16
  go_wp2_with fail
  go_loop [3, 4] (fun v3 v4 => ∃ (i p : Int), v3 = .int .u64 p ∧ v4 = .int .i64 i ∧ 0 ≤ i ∧ i ≤ n ∧ p = ((2 ^ i.toNat : Nat) : Int)) (fun _ v4 => (n - intOf v4).toNat)
  case atStart => exact ⟨0, 1, rfl, rfl, by omega, h0, rfl⟩
  case round =>
    obtain ⟨i, p, rfl, rfl, i0, i1, hp⟩ := hrel
    have HP := hide hp
    have h3 : p ≤ 9223372036854775808 := by rw [hp]; exact pow_le63 (by omega)
    have h2 : 0 ≤ p := by rw [hp]; exact Int.natCast_nonneg _
    clear hp
    by_cases hc : i < n
    · have h4 : p ≤ 4611686018427387904 := by
        rw [unhide HP]
        have : 2 ^ i.toNat ≤ 2 ^ 62 := Nat.pow_le_pow_right (by omega) (by omega)
        omega
      have hm : IntKind.u64.wrap (2 * p) = 2 * p := by rw [IntKind.wrap_u64]; omega
      have HQ : Hid (2 * p = ((2 ^ (i + 1).toNat : Nat) : Int)) := by
        rw [unhide HP, show (i + 1).toNat = i.toNat + 1 by omega, Nat.pow_succ]
        unfold Hid
        omega
      go_wp2_with fail
      exact ⟨⟨i + 1, 2 * p, rfl, rfl, by omega, by omega, unhide HQ⟩, by simp [intOf]; omega⟩
    · go_wp2_with fail
      go_ret
      exact ⟨ret1 (by rw [unhide HP, show i = n by omega]; exact unhide HT), Below.refl _ _⟩

theorem two_f {w e f P Q b : Int} (h : Kd w e f P Q b) (W : World) : Calls Try.prog 16 #[.int .i64 f] W fun r W' => r = .returned (.int .u64 P) ∧ Below W.heap.size W W' := by
  rcases h with ⟨rfl, rfl, rfl, rfl, rfl, rfl⟩ | ⟨rfl, rfl, rfl, rfl, rfl, rfl⟩
  all_goals exact two_any _ _ W (by omega) (by omega) (by decide +kernel)
theorem two_e {w e f P Q b : Int} (h : Kd w e f P Q b) (W : World) : Calls Try.prog 16 #[.int .i64 e] W fun r W' => r = .returned (.int .u64 Q) ∧ Below W.heap.size W W' := by
  rcases h with ⟨rfl, rfl, rfl, rfl, rfl, rfl⟩ | ⟨rfl, rfl, rfl, rfl, rfl, rfl⟩
  all_goals exact two_any _ _ W (by omega) (by omega) (by decide +kernel)
theorem two_w {w e f P Q b : Int} (h : Kd w e f P Q b) (W : World) : Calls Try.prog 16 #[.int .i64 (w - 1)] W fun r W' => r = .returned (.int .u64 (P * Q)) ∧ Below W.heap.size W W' := by
  rcases h with ⟨rfl, rfl, rfl, rfl, rfl, rfl⟩ | ⟨rfl, rfl, rfl, rfl, rfl, rfl⟩
  all_goals exact two_any _ _ W (by omega) (by omega) (by decide +kernel)
set_option maxHeartbeats 400000 in
theorem refCut_any {w e f P Q b : Int} (x : Int) (h : Kd w e f P Q b) (W : World) (h0 : 0 ≤ x) (h1 : x < 18446744073709551616) :
    Calls Try.prog 22 #[.int .i64 w, .int .u64 x] W fun r W' => r = .returned (.int .u64 (cutN f P Q x)) ∧ Below W.heap.size W W' := by
  rcases h with ⟨rfl, rfl, rfl, rfl, rfl, rfl⟩ | ⟨rfl, rfl, rfl, rfl, rfl, rfl⟩
  · go_enter Try.func22, Try.ntmps22
    go_wp2
    go_ret
    exact ⟨rfl, Below.refl _ _⟩
  · have HE : Hid (x = cutN 52 4503599627370496 2048 x) := by
      show x = if (52 : Int) = 0 then 0 else x % 18446744073709551616
      rw [if_neg (by decide)]
      omega
    go_enter Try.func22, Try.ntmps22
    go_wp2
    go_ret
    exact ⟨ret1 (unhide HE), Below.refl _ _⟩

set_option maxHeartbeats 400000 in
theorem refTop_any {w e f P Q b : Int} (h : Kd w e f P Q b) (W : World) :
    Calls Try.prog 36 #[.int .i64 w] W fun r W' => r = .returned (.int .i64 (Q - 1)) ∧ Below W.heap.size W W' := by
  have q : 1 ≤ Q ∧ Q ≤ 2048 := by rcases h with h | h <;> omega
  have k1 : IntKind.i64.wrap Q = Q := i64_id (by omega) (by omega)
  have k2 : IntKind.i64.wrap (Q - 1) = Q - 1 := i64_id (by omega) (by omega)
  have HC := hide (fun W => refE_any h W)
  have HD := hide (fun W => two_e h W)
  clear q h
  go_enter Try.func36, Try.ntmps36
  go_wp2_with fail
  refine (unhide HC _).mono ?_
  rintro _ w1 ⟨rfl, hb1⟩
  go_wp2_with fail
  refine (unhide HD _).mono ?_
  rintro _ w2 ⟨rfl, hb2⟩
  go_wp2_with fail
  go_ret
  exact ⟨rfl, bthen hb1 hb2⟩

theorem quo_u64 {c R : Int} (h0 : 0 ≤ c) (h1 : c < 18446744073709551616) (hR : 0 < R) : IntKind.u64.wrap (c.tdiv R) = c / R := by
  rw [Int.tdiv_eq_ediv_of_nonneg h0, IntKind.wrap_u64]
  have h2 := Int.ediv_le_self R h0
  have h3 := Int.ediv_nonneg h0 (Int.le_of_lt hR)
  omega
theorem frac_cut {w e f P Q b : Int} (x : Int) (h : Kd w e f P Q b) : cutN f P Q x / P % Q = x / P % Q ∧ (cutN f P Q x / (P * Q) == 1) = sg P Q x ∧ 0 ≤ cutN f P Q x ∧ cutN f P Q x < 18446744073709551616 := by
  unfold sg
  rcases h with ⟨rfl, rfl, rfl, rfl, rfl, rfl⟩ | ⟨rfl, rfl, rfl, rfl, rfl, rfl⟩
  · show (if (23 : Int) = 0 then 0 else x % 4294967296) / 8388608 % 256 = x / 8388608 % 256 ∧ ((if (23 : Int) = 0 then 0 else x % 4294967296) / 2147483648 == 1) = (x / 2147483648 % 2 == 1) ∧ (0 : Int) ≤ (if (23 : Int) = 0 then 0 else x % 4294967296) ∧ (if (23 : Int) = 0 then 0 else x % 4294967296) < 18446744073709551616
    rw [if_neg (show ¬ (23 : Int) = 0 by decide)]
    refine ⟨by omega, ?_, by omega, by omega⟩
    rw [show x % 4294967296 / 2147483648 = x / 2147483648 % 2 by omega]
  · show (if (52 : Int) = 0 then 0 else x % 18446744073709551616) / 4503599627370496 % 2048 = x / 4503599627370496 % 2048 ∧ ((if (52 : Int) = 0 then 0 else x % 18446744073709551616) / 9223372036854775808 == 1) = (x / 9223372036854775808 % 2 == 1) ∧ (0 : Int) ≤ (if (52 : Int) = 0 then 0 else x % 18446744073709551616) ∧ (if (52 : Int) = 0 then 0 else x % 18446744073709551616) < 18446744073709551616
    rw [if_neg (show ¬ (52 : Int) = 0 by decide)]
    refine ⟨by omega, ?_, by omega, by omega⟩
    rw [show x % 18446744073709551616 / 9223372036854775808 = x / 9223372036854775808 % 2 by omega]

set_option maxHeartbeats 400000 in
theorem refFrac_any {w e f P Q b : Int} (x : Int) (h : Kd w e f P Q b) (W : World) (h0 : 0 ≤ x) :
    Calls Try.prog 34 #[.int .i64 w, .int .u64 x] W fun r W' => r = .returned (.int .u64 (x % P)) ∧ Below W.heap.size W W' := by
  have HC := hide (fun W => refF_any h W)
  have HD := hide (fun W => two_f h W)
  have p0 : 0 < P := by rcases h with h | h <;> omega
  have p1 : (P == 0) = false := by simp; omega
  clear h
  go_enter Try.func34, Try.ntmps34
  go_wp2_with fail
  refine (unhide HC _).mono ?_
  rintro _ w1 ⟨rfl, hb1⟩
  go_wp2_with fail
  refine (unhide HD _).mono ?_
  rintro _ w2 ⟨rfl, hb2⟩
  go_wp2_with fail
  go_ret
  exact ⟨rfl, bthen hb1 hb2⟩

set_option maxHeartbeats 400000 in
theorem refNeg_any {w e f P Q b : Int} (x : Int) (h : Kd w e f P Q b) (W : World) (h0 : 0 ≤ x) (h1 : x < 18446744073709551616) :
    Calls Try.prog 35 #[.int .i64 w, .int .u64 x] W fun r W' => r = .returned (.bool (sg P Q x)) ∧ Below W.heap.size W W' := by
  have HC := hide (fun W => refCut_any x h W h0 h1)
  have HD := hide (fun W => two_w h W)
  have p0 : 0 < P * Q := by rcases h with ⟨_, _, _, rfl, rfl, _⟩ | ⟨_, _, _, rfl, rfl, _⟩ <;> decide
  have k1 : IntKind.i64.wrap (w - 1) = w - 1 := by rcases h with h | h <;> exact i64_id (by omega) (by omega)
  obtain ⟨c1, c2, c3, c4⟩ := frac_cut x h
  have HE := hide c2
  have k2 := quo_u64 c3 c4 p0
  clear c1 c2 c4 h h0 h1
  generalize cutN f P Q x = c at *
  generalize sg P Q x = n at *
  generalize P * Q = R at *
  go_enter Try.func35, Try.ntmps35
  go_wp2_with fail
  refine (unhide HC _).mono ?_
  rintro _ w1 ⟨rfl, hb1⟩
  go_wp2_with fail
  refine (unhide HD _).mono ?_
  rintro _ w2 ⟨rfl, hb2⟩
  go_wp2_with fail
  go_ret
  exact ⟨retb (unhide HE), bthen hb1 hb2⟩

set_option maxHeartbeats 1000000 in
theorem refExp_any {w e f P Q b : Int} (x : Int) (h : Kd w e f P Q b) (W : World) (h0 : 0 ≤ x) (h1 : x < 18446744073709551616) :
    Calls Try.prog 33 #[.int .i64 w, .int .u64 x] W fun r W' => r = .returned (.int .i64 (x / P % Q)) ∧ Below W.heap.size W W' := by
  have HC := hide (fun W => refCut_any x h W h0 h1)
  have HF := hide (fun W => refF_any h W)
  have HE := hide (fun W => refE_any h W)
  have HTf := hide (fun W => two_f h W)
  have HTe := hide (fun W => two_e h W)
  have p0 : 0 < P := by rcases h with h | h <;> omega
  have q0 : 0 < Q := by rcases h with h | h <;> omega
  have q1 : Q ≤ 2048 := by rcases h with h | h <;> omega
  obtain ⟨c1, c2, c3, c4⟩ := frac_cut x h
  have k2 := quo_u64 c3 c4 p0
  have p1 : ¬ P = 0 := by omega
  have q2 : ¬ Q = 0 := by omega
  have k3 : 0 ≤ cutN f P Q x / P := Int.ediv_nonneg c3 (Int.le_of_lt p0)
  have k4 : IntKind.i64.wrap (x / P % Q) = x / P % Q := by
    obtain ⟨u, v⟩ := exp_in (x / P) q0
    exact i64_id (by omega) (by omega)
  have k5 : (cutN f P Q x / P).tmod Q = x / P % Q := by rw [Int.tmod_eq_emod_of_nonneg k3, c1]
  clear c2 c4 h h0 h1 q1 p0 q0
  generalize x / P % Q = y at *
  generalize cutN f P Q x = c at *
  generalize c / P = d at *
  go_enter Try.func33, Try.ntmps33
  go_wp2_with fail
  have HB := hide ((Below.refl W.heap.size W).drew)
  refine wp_region_held_drew (S := Free) (by kernel_rfl) ?_ (fun hHeld => ?_)
  · (try dsimp only)
    exact free _
  refine lst0 13 (by kernel_rfl) ?_
  refine tkA 0 5 1 ?_
  refine tkA 1 6 3 ?_
  refine tkA 3 8 11 ?_
  refine tkA 7 12 139 ?_
  refine rdA 2 143 (fun Kk hKk => ?_)
  go_simp
  refine (unhide HC _).mono ?_
  rintro _ wn ⟨rfl, hbl⟩
  have HB := hide (bthen (unhide HB) hbl)
  (try go_wp2_with fail)
  refine hKk.out _ _ ?_ (fun hHeld => ?_)
  · (try dsimp only)
    exact free _
  clear hKk Kk
  (try simp only [List.setIfInBounds_toArray, List.set_cons_zero, List.set_cons_succ])
  refine rdA 4 159 (fun Kk hKk => ?_)
  go_simp
  refine (unhide HF _).mono ?_
  rintro _ wn ⟨rfl, hbl⟩
  have HB := hide (bthen (unhide HB) hbl)
  (try go_wp2_with fail)
  refine hKk.out _ _ ?_ (fun hHeld => ?_)
  · (try dsimp only)
    exact free _
  clear hKk Kk
  (try simp only [List.setIfInBounds_toArray, List.set_cons_zero, List.set_cons_succ])
  refine rdA 5 191 (fun Kk hKk => ?_)
  go_simp
  refine (unhide HTf _).mono ?_
  rintro _ wn ⟨rfl, hbl⟩
  have HB := hide (bthen (unhide HB) hbl)
  (try go_wp2_with fail)
  refine hKk.out _ _ ?_ (fun hHeld => ?_)
  · (try dsimp only)
    exact free _
  clear hKk Kk
  (try simp only [List.setIfInBounds_toArray, List.set_cons_zero, List.set_cons_succ])
  refine tkA 6 11 255 ?_
  refine rdA 8 511 (fun Kk hKk => ?_)
  go_simp
  refine (unhide HE _).mono ?_
  rintro _ wn ⟨rfl, hbl⟩
  have HB := hide (bthen (unhide HB) hbl)
  (try go_wp2_with fail)
  refine hKk.out _ _ ?_ (fun hHeld => ?_)
  · (try dsimp only)
    exact free _
  clear hKk Kk
  (try simp only [List.setIfInBounds_toArray, List.set_cons_zero, List.set_cons_succ])
  refine rdA 9 1023 (fun Kk hKk => ?_)
  go_simp
  refine (unhide HTe _).mono ?_
  rintro _ wn ⟨rfl, hbl⟩
  have HB := hide (bthen (unhide HB) hbl)
  (try go_wp2_with fail)
  refine hKk.out _ _ ?_ (fun hHeld => ?_)
  · (try dsimp only)
    exact free _
  clear hKk Kk
  (try simp only [List.setIfInBounds_toArray, List.set_cons_zero, List.set_cons_succ])
  refine tkA 10 15 2047 ?_
  refine tkA 11 16 4095 ?_
  refine tkA 12 4 8191 ?_
  refine wpAnyH_done (by kernel_rfl) ?_ _
  go_wp2_with fail
  go_ret
  exact ⟨rfl, unhide HB⟩

theorem put_no {f P Q x y : Int} (hf : f ≠ 0) : put f P Q false x y = x * P + y := by unfold put; rw [if_neg hf]; simp
theorem Kd.pos {w e f P Q b : Int} (h : Kd w e f P Q b) : 2 ≤ P ∧ P ≤ 4503599627370496 ∧ 2 ≤ Q ∧ Q ≤ 2048 := by rcases h with h | h <;> omega

end Go.Proofs.Ytmbkpmcmhmldgaa
