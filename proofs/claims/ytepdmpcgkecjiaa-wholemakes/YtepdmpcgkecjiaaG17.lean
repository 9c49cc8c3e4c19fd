/- Ends, Ref, Open. -/
import Derived.Test.YtepdmpcgkecjiaaG01
namespace Go.Proofs.Ytepdmpcgkecjiaa
open Go.RowKit

/-- A float of its fields; 0 of what is no width. -/
def put (f P Q : Int) (n : Bool) (x y : Int) : Int := if f = 0 then 0 else x * P + y + (if n then P * Q else 0)
/-- The sign's bit of a float. -/
def sg (P Q x : Int) : Bool := x / (P * Q) % 2 == 1

theorem take_any {w e f P Q b : Int} (x : Int) (h : Wd w e f P Q b) (W : World) (h0 : 0 ≤ x) (h1 : x < 18446744073709551616) :
    Calls Try.prog 47 #[.int .i64 w, .int .u64 x] W fun r W' => r = .returned (.agg #[.int .i64 e, .int .i64 f, .bool (sg P Q x), .int .u64 (x / P % Q), .int .u64 (x % P)]) ∧ Below W.heap.size W W' := by
  unfold sg
  rcases h with ⟨rfl, rfl, rfl, rfl, rfl, rfl⟩ | ⟨rfl, rfl, rfl, rfl, rfl, rfl⟩ | ⟨hw, rfl, rfl, rfl, rfl, rfl⟩
  · exact take_32 x W h0 h1
  · exact take_64 x W h0 h1
  · rw [Int.emod_one, Int.emod_one, Int.mul_one, Int.ediv_one]
    exact take_no w x W h0 h1 hw

theorem bits_any {e f P Q b : Int} (n : Bool) (x y : Int) (h : Sz e f P Q b) (W : World) (x0 : 0 ≤ x) (x1 : x < Q) (y0 : 0 ≤ y) (y1 : y < P) :
    Calls Try.prog 55 #[.agg #[.int .i64 e, .int .i64 f, .bool n, .int .u64 x, .int .u64 y]] W fun r W' => r = .returned (.int .u64 (put f P Q n x y)) ∧ Below W.heap.size W W' := by
  unfold put
  rcases h with ⟨rfl, rfl, rfl, rfl, rfl⟩ | ⟨rfl, rfl, rfl, rfl, rfl⟩ | ⟨rfl, rfl, rfl, rfl, rfl⟩
  · cases n
    · simpa using bits_32p x y W x0 x1 y0 y1
    · simpa using bits_32m x y W x0 x1 y0 y1
  · cases n
    · simpa using bits_64p x y W x0 x1 y0 y1
    · simpa using bits_64m x y W x0 x1 y0 y1
  · simpa using bits_no n x y W

theorem Sz.pos {e f P Q b : Int} (h : Sz e f P Q b) : 1 ≤ P ∧ P ≤ 4503599627370496 ∧ 1 ≤ Q ∧ Q ≤ 2048 := by rcases h with h | h | h <;> omega
theorem exp_in {Q : Int} (z : Int) (h : 1 ≤ Q) : 0 ≤ z % Q ∧ z % Q < Q := ⟨Int.emod_nonneg _ (by omega), Int.emod_lt_of_pos _ (by omega)⟩

/-- The lowest bits of a float's width. -/
def cutN (f P Q x : Int) : Int := if f = 0 then 0 else x % (2 * (P * Q))
theorem cut_put {e f P Q b : Int} (h : Sz e f P Q b) (x : Int) : put f P Q (sg P Q x) (x / P % Q) (x % P) = cutN f P Q x := by
  unfold put cutN sg
  rcases h with ⟨rfl, rfl, rfl, rfl, rfl⟩ | ⟨rfl, rfl, rfl, rfl, rfl⟩ | ⟨rfl, rfl, rfl, rfl, rfl⟩
  · show (if (23 : Int) = 0 then (0 : Int) else x / 8388608 % 256 * 8388608 + x % 8388608 + (if (x / 2147483648 % 2 == 1) = true then 2147483648 else 0)) = if (23 : Int) = 0 then 0 else x % 4294967296
    rw [if_neg (show ¬ (23 : Int) = 0 by decide), if_neg (show ¬ (23 : Int) = 0 by decide)]
    by_cases hn : x / 2147483648 % 2 = 1
    · rw [if_pos (by rw [hn]; rfl)]; omega
    · rw [if_neg (by simp [hn])]; omega
  · show (if (52 : Int) = 0 then (0 : Int) else x / 4503599627370496 % 2048 * 4503599627370496 + x % 4503599627370496 + (if (x / 9223372036854775808 % 2 == 1) = true then 9223372036854775808 else 0)) = if (52 : Int) = 0 then 0 else x % 18446744073709551616
    rw [if_neg (show ¬ (52 : Int) = 0 by decide), if_neg (show ¬ (52 : Int) = 0 by decide)]
    by_cases hn : x / 9223372036854775808 % 2 = 1
    · rw [if_pos (by rw [hn]; rfl)]; omega
    · rw [if_neg (by simp [hn])]; omega
  · rfl

set_option maxHeartbeats 1000000 in
theorem cut_any {w e f P Q b : Int} (x : Int) (h : Wd w e f P Q b) (W : World) (h0 : 0 ≤ x) (h1 : x < 18446744073709551616) :
    Calls Try.prog 18 #[.int .i64 w, .int .u64 x] W fun r W' => r = .returned (.int .u64 (cutN f P Q x)) ∧ Below W.heap.size W W' := by
  obtain ⟨p1, p2, p3, p4⟩ := h.sz.pos
  have E := exp_in (x / P) p3
  have F := exp_in x p1
  have HT := hide (fun W => take_any x h W h0 h1)
  have HC := hide (fun W => bits_any (sg P Q x) _ _ h.sz W E.1 E.2 F.1 F.2)
  have HE := hide (cut_put h.sz x)
  clear h0 h1 p1 p2 p3 p4 E F h
  generalize sg P Q x = n at *
  generalize x / P % Q = y at *
  generalize x % P = z at *
  go_enter Try.func18, Try.ntmps18
  go_wp2_with fail
  refine (unhide HT _).mono ?_
  rintro _ w1 ⟨rfl, hb1⟩
  go_wp2_with fail
  refine (unhide HC _).mono ?_
  rintro _ w2 ⟨rfl, hb2⟩
  go_wp2_with fail
  go_ret
  exact ⟨ret1 (unhide HE), bthen hb1 hb2⟩

set_option maxHeartbeats 1000000 in
theorem isNanW_any {w e f P Q b : Int} (x : Int) (h : Wd w e f P Q b) (W : World) (h0 : 0 ≤ x) (h1 : x < 18446744073709551616) :
    Calls Try.prog 86 #[.int .i64 w, .int .u64 x] W fun r W' => r = .returned (.bool (x / P % Q == Q - 1 && x % P != 0)) ∧ Below W.heap.size W W' := by
  have HT := hide (fun W => take_any x h W h0 h1)
  have HC := hide (fun W => isNan_any (sg P Q x) (x / P % Q) (x % P) h.sz W)
  clear h0 h1 h
  generalize sg P Q x = n at *
  generalize x / P % Q = y at *
  generalize x % P = z at *
  go_enter Try.func86, Try.ntmps86
  go_wp2_with fail
  refine (unhide HT _).mono ?_
  rintro _ w1 ⟨rfl, hb1⟩
  go_wp2_with fail
  refine (unhide HC _).mono ?_
  rintro _ w2 ⟨rfl, hb2⟩
  go_wp2_with fail
  go_ret
  exact ⟨rfl, bthen hb1 hb2⟩

set_option maxHeartbeats 1000000 in
theorem zero_any {w e f P Q b : Int} (n : Bool) (h : Wd w e f P Q b) (W : World) :
    Calls Try.prog 74 #[.int .i64 w, .bool n] W fun r W' => r = .returned (.int .u64 (put f P Q n 0 0)) ∧ Below W.heap.size W W' := by
  obtain ⟨p1, p2, p3, p4⟩ := h.sz.pos
  have HC := hide (fun W => bits_any n 0 0 h.sz W (by omega) (by omega) (by omega) (by omega))
  go_enter Try.func74, Try.ntmps74
  go_wp2_with fail
  refine (sizesOf_any h _).mono ?_
  rintro _ w1 ⟨rfl, hb1⟩
  go_wp2_with fail
  refine (unhide HC _).mono ?_
  rintro _ w2 ⟨rfl, hb2⟩
  go_wp2_with fail
  go_ret
  exact ⟨rfl, bthen hb1 hb2⟩

theorem and_not1 {e f P Q b : Int} (h : Sz e f P Q b) : ∃ M, bits .andNot .u64 (Q - 1) 1 = M ∧ 0 ≤ M ∧ M < Q ∧ (f ≠ 0 → M = Q - 2) := by
  rcases h with ⟨rfl, rfl, rfl, rfl, rfl⟩ | ⟨rfl, rfl, rfl, rfl, rfl⟩ | ⟨rfl, rfl, rfl, rfl, rfl⟩
  · exact ⟨254, by decide +kernel, by omega, by omega, by omega⟩
  · exact ⟨2046, by decide +kernel, by omega, by omega, by omega⟩
  · exact ⟨0, by decide +kernel, by omega, by omega, by omega⟩

set_option maxHeartbeats 2000000 in
theorem nan_any {w e f P Q b : Int} (h : Wd w e f P Q b) (W : World) :
    Calls Try.prog 17 #[.int .i64 w] W fun r W' => r = .returned (.int .u64 (put f P Q false (Q - 1) (P / 2))) ∧ Below W.heap.size W W' := by
  obtain ⟨p1, p2, p3, p4⟩ := h.sz.pos
  have hs := h.sz
  have HC := hide (fun W => bits_any false (Q - 1) (P / 2) h.sz W (by omega) (by omega) (by omega) (by omega))
  clear p1 p2 p3 p4
  go_enter Try.func17, Try.ntmps17
  go_wp2_with fail
  refine (sizesOf_any h _).mono ?_
  rintro _ w1 ⟨rfl, hb1⟩
  have HB := hide (balloc hb1 (.cells #[.int .i64 e, .int .i64 f] 60)).drew
  go_wp2_with fail
  refine wp_region_held_drew (S := fun w' => w'.cell? ⟨w1.heap.size, 0, none⟩ = some (.int .i64 e) ∧ w'.cell? ⟨w1.heap.size, 1, none⟩ = some (.int .i64 f)) (by kernel_rfl) ?_ (fun hHeld => ?_)
  · (try dsimp only)
    simp [go_sem]
  refine lst0 9 (by kernel_rfl) ?_
  refine tkH 0 6 1 ?v0 rfl (by kernel_rfl) (by kernel_rfl) (fun _ _ _ h => h) (by assumption) (Or.inl ⟨by rfl, ?y0⟩) ?_
  case y0 => ((intro w hSw; (try dsimp only at hSw); go_simp) <;> with_reducible rfl)
  (try simp only [Act.put, List.setIfInBounds_toArray, List.set_cons_zero, List.set_cons_succ])
  refine tkH 1 7 3 ?v1 rfl (by kernel_rfl) (by kernel_rfl) (fun _ _ _ h => h) (by assumption) (Or.inl ⟨by rfl, ?y1⟩) ?_
  case y1 => ((intro w hSw; (try dsimp only at hSw); go_simp) <;> with_reducible rfl)
  (try simp only [Act.put, List.setIfInBounds_toArray, List.set_cons_zero, List.set_cons_succ])
  refine tkH 3 9 11 ?v3 rfl (by kernel_rfl) (by kernel_rfl) (fun _ _ _ h => h) (by assumption) (Or.inl ⟨by rfl, ?y3⟩) ?_
  case y3 => ((intro w hSw; (try dsimp only at hSw); go_simp) <;> with_reducible rfl)
  (try simp only [Act.put, List.setIfInBounds_toArray, List.set_cons_zero, List.set_cons_succ])
  refine rdH 2 15 rfl (by kernel_rfl) (by kernel_rfl) (fun Kk hKk => ?_)
  go_simp
  refine (last_any hs _).mono ?_
  rintro _ w2 ⟨rfl, hbl⟩
  have HB := hide (bthen (unhide HB) hbl)
  (try go_wp2_with fail)
  refine hKk.out _ _ ?_ (fun hHeld => ?_)
  · (try dsimp only)
    exact At2.below hHeld hbl
  clear hKk Kk
  (try simp only [List.setIfInBounds_toArray, List.set_cons_zero, List.set_cons_succ])
  refine rdH 4 31 rfl (by kernel_rfl) (by kernel_rfl) (fun Kk hKk => ?_)
  go_simp
  refine (one_any hs _).mono ?_
  rintro _ w3 ⟨rfl, hbl⟩
  have HB := hide (bthen (unhide HB) hbl)
  (try go_wp2_with fail)
  refine hKk.out _ _ ?_ (fun hHeld => ?_)
  · (try dsimp only)
    exact At2.below hHeld hbl
  clear hKk Kk
  (try simp only [List.setIfInBounds_toArray, List.set_cons_zero, List.set_cons_succ])
  refine tkH 5 11 63 ?v5 rfl (by kernel_rfl) (by kernel_rfl) (fun _ _ _ h => h) (by assumption) (Or.inl ⟨by rfl, ?y5⟩) ?_
  case y5 => ((intro w hSw; (try dsimp only at hSw); go_simp) <;> with_reducible rfl)
  (try simp only [Act.put, List.setIfInBounds_toArray, List.set_cons_zero, List.set_cons_succ])
  refine tkH 6 12 127 ?v6 rfl (by kernel_rfl) (by kernel_rfl) (fun _ _ _ h => h) (by assumption) (Or.inl ⟨by rfl, ?y6⟩) ?_
  case y6 => ((intro w hSw; (try dsimp only at hSw); go_simp) <;> with_reducible rfl)
  (try simp only [Act.put, List.setIfInBounds_toArray, List.set_cons_zero, List.set_cons_succ])
  refine rdH 7 255 rfl (by kernel_rfl) (by kernel_rfl) (fun Kk hKk => ?_)
  go_simp
  refine (unhide HC _).mono ?_
  rintro _ w4 ⟨rfl, hbl⟩
  have HB := hide (bthen (unhide HB) hbl)
  (try go_wp2_with fail)
  refine hKk.out _ _ ?_ (fun hHeld => ?_)
  · (try dsimp only)
    exact At2.below hHeld hbl
  clear hKk Kk
  (try simp only [List.setIfInBounds_toArray, List.set_cons_zero, List.set_cons_succ])
  refine tkH 8 2 511 ?v8 rfl (by kernel_rfl) (by kernel_rfl) (fun _ _ _ h => h) (by assumption) (Or.inl ⟨by rfl, ?y8⟩) ?_
  case y8 => ((intro w hSw; (try dsimp only at hSw); go_simp) <;> with_reducible rfl)
  (try simp only [Act.put, List.setIfInBounds_toArray, List.set_cons_zero, List.set_cons_succ])
  refine wpAnyH_done (by kernel_rfl) ?_ _
  go_wp2_with fail
  go_ret
  exact ⟨rfl, unhide HB⟩

set_option maxHeartbeats 2000000 in
theorem inf_any {w e f P Q b : Int} (n : Bool) (h : Wd w e f P Q b) (W : World) :
    Calls Try.prog 75 #[.int .i64 w, .bool n] W fun r W' => r = .returned (.int .u64 (put f P Q n (Q - 1) 0)) ∧ Below W.heap.size W W' := by
  obtain ⟨p1, p2, p3, p4⟩ := h.sz.pos
  have hs := h.sz
  have HC := hide (fun W => bits_any n (Q - 1) 0 h.sz W (by omega) (by omega) (by omega) (by omega))
  clear p1 p2 p3 p4
  go_enter Try.func75, Try.ntmps75
  go_wp2_with fail
  refine (sizesOf_any h _).mono ?_
  rintro _ w1 ⟨rfl, hb1⟩
  have HB := hide (balloc hb1 (.cells #[.int .i64 e, .int .i64 f] 60)).drew
  go_wp2_with fail
  refine wp_region_held_drew (S := fun w' => w'.cell? ⟨w1.heap.size, 0, none⟩ = some (.int .i64 e) ∧ w'.cell? ⟨w1.heap.size, 1, none⟩ = some (.int .i64 f)) (by kernel_rfl) ?_ (fun hHeld => ?_)
  · (try dsimp only)
    simp [go_sem]
  refine lst0 7 (by kernel_rfl) ?_
  refine tkH 0 8 1 ?v0 rfl (by kernel_rfl) (by kernel_rfl) (fun _ _ _ h => h) (by assumption) (Or.inl ⟨by rfl, ?y0⟩) ?_
  case y0 => ((intro w hSw; (try dsimp only at hSw); go_simp) <;> with_reducible rfl)
  (try simp only [Act.put, List.setIfInBounds_toArray, List.set_cons_zero, List.set_cons_succ])
  refine tkH 1 9 3 ?v1 rfl (by kernel_rfl) (by kernel_rfl) (fun _ _ _ h => h) (by assumption) (Or.inl ⟨by rfl, ?y1⟩) ?_
  case y1 => ((intro w hSw; (try dsimp only at hSw); go_simp) <;> with_reducible rfl)
  (try simp only [Act.put, List.setIfInBounds_toArray, List.set_cons_zero, List.set_cons_succ])
  refine tkH 2 10 7 ?v2 rfl (by kernel_rfl) (by kernel_rfl) (fun _ _ _ h => h) (by assumption) (Or.inl ⟨by rfl, ?y2⟩) ?_
  case y2 => ((intro w hSw; (try dsimp only at hSw); go_simp) <;> with_reducible rfl)
  (try simp only [Act.put, List.setIfInBounds_toArray, List.set_cons_zero, List.set_cons_succ])
  refine rdH 3 15 rfl (by kernel_rfl) (by kernel_rfl) (fun Kk hKk => ?_)
  go_simp
  refine (last_any hs _).mono ?_
  rintro _ w2 ⟨rfl, hbl⟩
  have HB := hide (bthen (unhide HB) hbl)
  (try go_wp2_with fail)
  refine hKk.out _ _ ?_ (fun hHeld => ?_)
  · (try dsimp only)
    exact At2.below hHeld hbl
  clear hKk Kk
  (try simp only [List.setIfInBounds_toArray, List.set_cons_zero, List.set_cons_succ])
  refine tkH 4 12 31 ?v4 rfl (by kernel_rfl) (by kernel_rfl) (fun _ _ _ h => h) (by assumption) (Or.inl ⟨by rfl, ?y4⟩) ?_
  case y4 => ((intro w hSw; (try dsimp only at hSw); go_simp) <;> with_reducible rfl)
  (try simp only [Act.put, List.setIfInBounds_toArray, List.set_cons_zero, List.set_cons_succ])
  refine rdH 5 63 rfl (by kernel_rfl) (by kernel_rfl) (fun Kk hKk => ?_)
  go_simp
  refine (unhide HC _).mono ?_
  rintro _ w4 ⟨rfl, hbl⟩
  have HB := hide (bthen (unhide HB) hbl)
  (try go_wp2_with fail)
  refine hKk.out _ _ ?_ (fun hHeld => ?_)
  · (try dsimp only)
    exact At2.below hHeld hbl
  clear hKk Kk
  (try simp only [List.setIfInBounds_toArray, List.set_cons_zero, List.set_cons_succ])
  refine tkH 6 4 127 ?v6 rfl (by kernel_rfl) (by kernel_rfl) (fun _ _ _ h => h) (by assumption) (Or.inl ⟨by rfl, ?y6⟩) ?_
  case y6 => ((intro w hSw; (try dsimp only at hSw); go_simp) <;> with_reducible rfl)
  (try simp only [Act.put, List.setIfInBounds_toArray, List.set_cons_zero, List.set_cons_succ])
  refine wpAnyH_done (by kernel_rfl) ?_ _
  go_wp2_with fail
  go_ret
  exact ⟨rfl, unhide HB⟩

set_option maxHeartbeats 2000000 in
theorem most_w {w e f P Q b : Int} (n : Bool) (h : Wd w e f P Q b) (W : World) :
    Calls Try.prog 88 #[.int .i64 w, .bool n] W fun r W' => r = .returned (.int .u64 (put f P Q n (Q - 2) (P - 1))) ∧ Below W.heap.size W W' := by
  obtain ⟨p1, p2, p3, p4⟩ := h.sz.pos
  have hs := h.sz
  obtain ⟨M, hM, m1, m2, m3⟩ := and_not1 hs
  have k1 : IntKind.u64.wrap (P - 1) = P - 1 := by rw [IntKind.wrap_u64]; omega
  have HC := hide (fun W => bits_any n M (P - 1) h.sz W (by omega) (by omega) (by omega) (by omega))
  have HE : Hid (put f P Q n M (P - 1) = put f P Q n (Q - 2) (P - 1)) := by
    by_cases hf : f = 0
    · simp [Hid, put, hf]
    · rw [m3 hf]; exact rfl
  clear p1 p2 p3 p4 m1 m2 m3
  go_enter Try.func88, Try.ntmps88
  go_wp2_with fail
  refine (sizesOf_any h _).mono ?_
  rintro _ w1 ⟨rfl, hb1⟩
  have HB := hide (balloc hb1 (.cells #[.int .i64 e, .int .i64 f] 60)).drew
  go_wp2_with fail
  refine wp_region_held_drew (S := fun w' => w'.cell? ⟨w1.heap.size, 0, none⟩ = some (.int .i64 e) ∧ w'.cell? ⟨w1.heap.size, 1, none⟩ = some (.int .i64 f)) (by kernel_rfl) ?_ (fun hHeld => ?_)
  · (try dsimp only)
    simp [go_sem]
  refine lst0 11 (by kernel_rfl) ?_
  refine tkH 0 8 1 ?v0 rfl (by kernel_rfl) (by kernel_rfl) (fun _ _ _ h => h) (by assumption) (Or.inl ⟨by rfl, ?y0⟩) ?_
  case y0 => ((intro w hSw; (try dsimp only at hSw); go_simp) <;> with_reducible rfl)
  (try simp only [Act.put, List.setIfInBounds_toArray, List.set_cons_zero, List.set_cons_succ])
  refine tkH 1 9 3 ?v1 rfl (by kernel_rfl) (by kernel_rfl) (fun _ _ _ h => h) (by assumption) (Or.inl ⟨by rfl, ?y1⟩) ?_
  case y1 => ((intro w hSw; (try dsimp only at hSw); go_simp) <;> with_reducible rfl)
  (try simp only [Act.put, List.setIfInBounds_toArray, List.set_cons_zero, List.set_cons_succ])
  refine tkH 2 10 7 ?v2 rfl (by kernel_rfl) (by kernel_rfl) (fun _ _ _ h => h) (by assumption) (Or.inl ⟨by rfl, ?y2⟩) ?_
  case y2 => ((intro w hSw; (try dsimp only at hSw); go_simp) <;> with_reducible rfl)
  (try simp only [Act.put, List.setIfInBounds_toArray, List.set_cons_zero, List.set_cons_succ])
  refine tkH 5 13 39 ?v5 rfl (by kernel_rfl) (by kernel_rfl) (fun _ _ _ h => h) (by assumption) (Or.inl ⟨by rfl, ?y5⟩) ?_
  case y5 => ((intro w hSw; (try dsimp only at hSw); go_simp) <;> with_reducible rfl)
  (try simp only [Act.put, List.setIfInBounds_toArray, List.set_cons_zero, List.set_cons_succ])
  refine rdH 3 47 rfl (by kernel_rfl) (by kernel_rfl) (fun Kk hKk => ?_)
  go_simp
  refine (last_any hs _).mono ?_
  rintro _ w2 ⟨rfl, hbl⟩
  have HB := hide (bthen (unhide HB) hbl)
  (try go_wp2_with fail)
  refine hKk.out _ _ ?_ (fun hHeld => ?_)
  · (try dsimp only)
    exact At2.below hHeld hbl
  clear hKk Kk
  (try simp only [List.setIfInBounds_toArray, List.set_cons_zero, List.set_cons_succ])
  refine tkH 4 12 63 ?v4 rfl (by kernel_rfl) (by kernel_rfl) (fun _ _ _ h => h) (by assumption) (Or.inl ⟨by rfl, ?y4⟩) ?_
  case y4 => ((intro w hSw; (try dsimp only at hSw); go_simp) <;> with_reducible rfl)
  (try simp only [Act.put, List.setIfInBounds_toArray, List.set_cons_zero, List.set_cons_succ])
  refine rdH 6 127 rfl (by kernel_rfl) (by kernel_rfl) (fun Kk hKk => ?_)
  go_simp
  refine (one_any hs _).mono ?_
  rintro _ w3 ⟨rfl, hbl⟩
  have HB := hide (bthen (unhide HB) hbl)
  (try go_wp2_with fail)
  refine hKk.out _ _ ?_ (fun hHeld => ?_)
  · (try dsimp only)
    exact At2.below hHeld hbl
  clear hKk Kk
  (try simp only [List.setIfInBounds_toArray, List.set_cons_zero, List.set_cons_succ])
  refine tkH 7 15 255 ?v7 rfl (by kernel_rfl) (by kernel_rfl) (fun _ _ _ h => h) (by assumption) (Or.inl ⟨by rfl, ?y7⟩) ?_
  case y7 => ((intro w hSw; (try dsimp only at hSw); go_simp) <;> with_reducible rfl)
  (try simp only [Act.put, List.setIfInBounds_toArray, List.set_cons_zero, List.set_cons_succ])
  refine tkH 8 16 511 ?v8 rfl (by kernel_rfl) (by kernel_rfl) (fun _ _ _ h => h) (by assumption) (Or.inl ⟨by rfl, ?y8⟩) ?_
  case y8 => ((intro w hSw; (try dsimp only at hSw); go_simp) <;> with_reducible rfl)
  (try simp only [Act.put, List.setIfInBounds_toArray, List.set_cons_zero, List.set_cons_succ])
  refine rdH 9 1023 rfl (by kernel_rfl) (by kernel_rfl) (fun Kk hKk => ?_)
  go_simp
  refine (unhide HC _).mono ?_
  rintro _ w4 ⟨rfl, hbl⟩
  have HB := hide (bthen (unhide HB) hbl)
  (try go_wp2_with fail)
  refine hKk.out _ _ ?_ (fun hHeld => ?_)
  · (try dsimp only)
    exact At2.below hHeld hbl
  clear hKk Kk
  (try simp only [List.setIfInBounds_toArray, List.set_cons_zero, List.set_cons_succ])
  refine tkH 10 4 2047 ?v10 rfl (by kernel_rfl) (by kernel_rfl) (fun _ _ _ h => h) (by assumption) (Or.inl ⟨by rfl, ?y10⟩) ?_
  case y10 => ((intro w hSw; (try dsimp only at hSw); go_simp) <;> with_reducible rfl)
  (try simp only [Act.put, List.setIfInBounds_toArray, List.set_cons_zero, List.set_cons_succ])
  refine wpAnyH_done (by kernel_rfl) ?_ _
  go_wp2_with fail
  go_ret
  exact ⟨ret1 (unhide HE), unhide HB⟩

set_option maxHeartbeats 1000000 in
theorem fields_any {w e f P Q b : Int} (h : Wd w e f P Q b) (W : World) :
    Calls Try.prog 68 #[.int .i64 w] W fun r W' => r = .returned (.tuple #[.int .i64 e, .int .i64 f]) ∧ Below W.heap.size W W' := by
  go_enter Try.func68, Try.ntmps68
  go_wp2_with fail
  refine (sizesOf_any h _).mono ?_
  rintro _ w1 ⟨rfl, hb1⟩
  have HB := hide (balloc hb1 (.cells #[.int .i64 e, .int .i64 f] 60)).drew
  go_wp2_with fail
  refine wp_region_held_drew (S := fun w' => w'.cell? ⟨w1.heap.size, 0, none⟩ = some (.int .i64 e) ∧ w'.cell? ⟨w1.heap.size, 1, none⟩ = some (.int .i64 f)) (by kernel_rfl) ?_ (fun hHeld => ?_)
  · (try dsimp only)
    simp [go_sem]
  refine lst0 6 (by kernel_rfl) ?_
  refine tkH 0 7 1 ?v0 rfl (by kernel_rfl) (by kernel_rfl) (fun _ _ _ h => h) (by assumption) (Or.inl ⟨by rfl, ?y0⟩) ?_
  case y0 => ((intro w hSw; (try dsimp only at hSw); go_simp) <;> with_reducible rfl)
  (try simp only [Act.put, List.setIfInBounds_toArray, List.set_cons_zero, List.set_cons_succ])
  refine tkH 1 8 3 ?v1 rfl (by kernel_rfl) (by kernel_rfl) (fun _ _ _ h => h) (by assumption) (Or.inl ⟨by rfl, ?y1⟩) ?_
  case y1 => ((intro w hSw; (try dsimp only at hSw); go_simp) <;> with_reducible rfl)
  (try simp only [Act.put, List.setIfInBounds_toArray, List.set_cons_zero, List.set_cons_succ])
  refine tkH 2 9 7 ?v2 rfl (by kernel_rfl) (by kernel_rfl) (fun _ _ _ h => h) (by assumption) (Or.inl ⟨by rfl, ?y2⟩) ?_
  case y2 => ((intro w hSw; (try dsimp only at hSw); go_simp) <;> with_reducible rfl)
  (try simp only [Act.put, List.setIfInBounds_toArray, List.set_cons_zero, List.set_cons_succ])
  refine tkH 3 10 15 ?v3 rfl (by kernel_rfl) (by kernel_rfl) (fun _ _ _ h => h) (by assumption) (Or.inl ⟨by rfl, ?y3⟩) ?_
  case y3 => ((intro w hSw; (try dsimp only at hSw); go_simp) <;> with_reducible rfl)
  (try simp only [Act.put, List.setIfInBounds_toArray, List.set_cons_zero, List.set_cons_succ])
  refine tkH 4 2 31 ?v4 rfl (by kernel_rfl) (by kernel_rfl) (fun _ _ _ h => h) (by assumption) (Or.inl ⟨by rfl, ?y4⟩) ?_
  case y4 => ((intro w hSw; (try dsimp only at hSw); go_simp) <;> with_reducible rfl)
  (try simp only [Act.put, List.setIfInBounds_toArray, List.set_cons_zero, List.set_cons_succ])
  refine tkH 5 3 63 ?v5 rfl (by kernel_rfl) (by kernel_rfl) (fun _ _ _ h => h) (by assumption) (Or.inl ⟨by rfl, ?y5⟩) ?_
  case y5 => ((intro w hSw; (try dsimp only at hSw); go_simp) <;> with_reducible rfl)
  (try simp only [Act.put, List.setIfInBounds_toArray, List.set_cons_zero, List.set_cons_succ])
  refine wpAnyH_done (by kernel_rfl) ?_ _
  go_wp2_with fail
  go_ret2
  exact ⟨rfl, unhide HB⟩

end Go.Proofs.Ytepdmpcgkecjiaa
namespace Go.Proofs.Ytepdmpcgkecjiaa
open Go.RowKit

/-- A width that is one. -/
def Kd (w e f P Q b : Int) : Prop := (w = 32 ∧ e = 8 ∧ f = 23 ∧ P = 8388608 ∧ Q = 256 ∧ b = 127) ∨ (w = 64 ∧ e = 11 ∧ f = 52 ∧ P = 4503599627370496 ∧ Q = 2048 ∧ b = 1023)
theorem Kd.wd {w e f P Q b : Int} (h : Kd w e f P Q b) : Wd w e f P Q b := by
  rcases h with h | h
  · exact Or.inl h
  · exact Or.inr (Or.inl h)
theorem Wd.known {w e f P Q b : Int} (h : Wd w e f P Q b) (hf : f ≠ 0) : Kd w e f P Q b := by
  rcases h with h | h | h
  · exact Or.inl h
  · exact Or.inr h
  · exact absurd h.2.2.1 hf
theorem Kd.f0 {w e f P Q b : Int} (h : Kd w e f P Q b) : f ≠ 0 := by rcases h with h | h <;> omega

set_option maxHeartbeats 400000 in
theorem refKnown_any {w e f P Q b : Int} (h : Wd w e f P Q b) (W : World) :
    Calls Try.prog 11 #[.int .i64 w] W fun r W' => r = .returned (.bool (f != 0)) ∧ Below W.heap.size W W' := by
  rcases h with ⟨rfl, rfl, rfl, rfl, rfl, rfl⟩ | ⟨rfl, rfl, rfl, rfl, rfl, rfl⟩ | ⟨⟨h1, h2⟩, rfl, rfl, rfl, rfl, rfl⟩
  · go_enter Try.func11, Try.ntmps11
    go_wp2
    go_ret
    exact ⟨rfl, by first | exact Below.refl _ _ | exact (Below.refl _ _).drew⟩
  · go_enter Try.func11, Try.ntmps11
    go_wp2
    go_ret
    exact ⟨rfl, by first | exact Below.refl _ _ | exact (Below.refl _ _).drew⟩
  · have c1 : (w == 32) = false := by simp [h1]
    have c2 : (w == 64) = false := by simp [h2]
    go_enter Try.func11, Try.ntmps11
    go_wp2
    go_ret
    exact ⟨rfl, by first | exact Below.refl _ _ | exact (Below.refl _ _).drew⟩

set_option maxHeartbeats 400000 in
theorem refE_any {w e f P Q b : Int} (h : Kd w e f P Q b) (W : World) :
    Calls Try.prog 70 #[.int .i64 w] W fun r W' => r = .returned (.int .i64 e) ∧ Below W.heap.size W W' := by
  rcases h with ⟨rfl, rfl, rfl, rfl, rfl, rfl⟩ | ⟨rfl, rfl, rfl, rfl, rfl, rfl⟩
  all_goals
    go_enter Try.func70, Try.ntmps70
    go_wp2
    go_ret
    exact ⟨rfl, Below.refl _ _⟩

set_option maxHeartbeats 400000 in
theorem refB_any {w e f P Q b : Int} (h : Kd w e f P Q b) (W : World) :
    Calls Try.prog 23 #[.int .i64 w] W fun r W' => r = .returned (.int .i64 b) ∧ Below W.heap.size W W' := by
  rcases h with ⟨rfl, rfl, rfl, rfl, rfl, rfl⟩ | ⟨rfl, rfl, rfl, rfl, rfl, rfl⟩
  all_goals
    go_enter Try.func23, Try.ntmps23
    go_wp2
    go_ret
    exact ⟨rfl, Below.refl _ _⟩

set_option maxHeartbeats 400000 in
theorem refF_any {w e f P Q b : Int} (h : Kd w e f P Q b) (W : World) :
    Calls Try.prog 42 #[.int .i64 w] W fun r W' => r = .returned (.int .i64 f) ∧ Below W.heap.size W W' := by
  have HE := hide (fun W => refE_any h W)
  rcases h with ⟨rfl, rfl, rfl, rfl, rfl, rfl⟩ | ⟨rfl, rfl, rfl, rfl, rfl, rfl⟩
  all_goals
    go_enter Try.func42, Try.ntmps42
    go_wp2_with fail
    refine (unhide HE _).mono ?_
    rintro _ w1 ⟨rfl, hb1⟩
    go_wp2
    go_ret
    exact ⟨rfl, hb1⟩

theorem pow_le63 {k : Nat} (h : k ≤ 63) : ((2 ^ k : Nat) : Int) ≤ 9223372036854775808 := by
  have : 2 ^ k ≤ 2 ^ 63 := Nat.pow_le_pow_right (by omega) h
  omega
set_option maxHeartbeats 1000000 in
theorem two_any (n T : Int) (W : World) (h0 : 0 ≤ n) (h1 : n ≤ 63) (hT : ((2 ^ n.toNat : Nat) : Int) = T) :
    Calls Try.prog 43 #[.int .i64 n] W fun r W' => r = .returned (.int .u64 T) ∧ Below W.heap.size W W' := by
  have HT := hide hT
  clear hT
  go_enter Try.func43, Try.ntmps43
  go_wp2_with fail
  go_loop [3, 4] (fun v3 v4 => ∃ (i p : Int), v3 = .int .u64 p ∧ v4 = .int .i64 i ∧ 0 ≤ i ∧ i ≤ n ∧ p = ((2 ^ i.toNat : Nat) : Int)) (fun _ v4 => (n - intOf v4).toNat)
  case atStart => exact ⟨0, 1, rfl, rfl, by omega, h0, rfl⟩
  case round =>
    obtain ⟨i, p, rfl, rfl, i0, i1, hp⟩ := hrel
    have HP := hide hp
    have h3 : p ≤ 9223372036854775808 := by rw [hp]; exact pow_le63 (by omega)
    have h2 : 0 ≤ p := by rw [hp]; exact Int.natCast_nonneg _
    clear hp
    by_cases hc : i < n
    · have h4 : p ≤ 4611686018427387904 := by
        rw [unhide HP]
        have : 2 ^ i.toNat ≤ 2 ^ 62 := Nat.pow_le_pow_right (by omega) (by omega)
        omega
      have hm : IntKind.u64.wrap (2 * p) = 2 * p := by rw [IntKind.wrap_u64]; omega
      have HQ : Hid (2 * p = ((2 ^ (i + 1).toNat : Nat) : Int)) := by
        rw [unhide HP, show (i + 1).toNat = i.toNat + 1 by omega, Nat.pow_succ]
        unfold Hid
        omega
      go_wp2_with fail
      exact ⟨⟨i + 1, 2 * p, rfl, rfl, by omega, by omega, unhide HQ⟩, by simp [intOf]; omega⟩
    · go_wp2_with fail
      go_ret
      exact ⟨ret1 (by rw [unhide HP, show i = n by omega]; exact unhide HT), Below.refl _ _⟩

theorem two_f {w e f P Q b : Int} (h : Kd w e f P Q b) (W : World) : Calls Try.prog 43 #[.int .i64 f] W fun r W' => r = .returned (.int .u64 P) ∧ Below W.heap.size W W' := by
  rcases h with ⟨rfl, rfl, rfl, rfl, rfl, rfl⟩ | ⟨rfl, rfl, rfl, rfl, rfl, rfl⟩
  all_goals exact two_any _ _ W (by omega) (by omega) (by decide +kernel)
theorem two_e {w e f P Q b : Int} (h : Kd w e f P Q b) (W : World) : Calls Try.prog 43 #[.int .i64 e] W fun r W' => r = .returned (.int .u64 Q) ∧ Below W.heap.size W W' := by
  rcases h with ⟨rfl, rfl, rfl, rfl, rfl, rfl⟩ | ⟨rfl, rfl, rfl, rfl, rfl, rfl⟩
  all_goals exact two_any _ _ W (by omega) (by omega) (by decide +kernel)
theorem two_w {w e f P Q b : Int} (h : Kd w e f P Q b) (W : World) : Calls Try.prog 43 #[.int .i64 (w - 1)] W fun r W' => r = .returned (.int .u64 (P * Q)) ∧ Below W.heap.size W W' := by
  rcases h with ⟨rfl, rfl, rfl, rfl, rfl, rfl⟩ | ⟨rfl, rfl, rfl, rfl, rfl, rfl⟩
  all_goals exact two_any _ _ W (by omega) (by omega) (by decide +kernel)
theorem two_h {w e f P Q b : Int} (h : Kd w e f P Q b) (W : World) : Calls Try.prog 43 #[.int .i64 (f - 1)] W fun r W' => r = .returned (.int .u64 (P / 2)) ∧ Below W.heap.size W W' := by
  rcases h with ⟨rfl, rfl, rfl, rfl, rfl, rfl⟩ | ⟨rfl, rfl, rfl, rfl, rfl, rfl⟩
  all_goals exact two_any _ _ W (by omega) (by omega) (by decide +kernel)

set_option maxHeartbeats 400000 in
theorem refCut_any {w e f P Q b : Int} (x : Int) (h : Kd w e f P Q b) (W : World) (h0 : 0 ≤ x) (h1 : x < 18446744073709551616) :
    Calls Try.prog 31 #[.int .i64 w, .int .u64 x] W fun r W' => r = .returned (.int .u64 (cutN f P Q x)) ∧ Below W.heap.size W W' := by
  rcases h with ⟨rfl, rfl, rfl, rfl, rfl, rfl⟩ | ⟨rfl, rfl, rfl, rfl, rfl, rfl⟩
  · go_enter Try.func31, Try.ntmps31
    go_wp2
    go_ret
    exact ⟨rfl, Below.refl _ _⟩
  · have HE : Hid (x = cutN 52 4503599627370496 2048 x) := by
      show x = if (52 : Int) = 0 then 0 else x % 18446744073709551616
      rw [if_neg (by decide)]
      omega
    go_enter Try.func31, Try.ntmps31
    go_wp2
    go_ret
    exact ⟨ret1 (unhide HE), Below.refl _ _⟩

set_option maxHeartbeats 400000 in
theorem refTop_any {w e f P Q b : Int} (h : Kd w e f P Q b) (W : World) :
    Calls Try.prog 41 #[.int .i64 w] W fun r W' => r = .returned (.int .i64 (Q - 1)) ∧ Below W.heap.size W W' := by
  have q : 1 ≤ Q ∧ Q ≤ 2048 := by rcases h with h | h <;> omega
  have k1 : IntKind.i64.wrap Q = Q := i64_id (by omega) (by omega)
  have k2 : IntKind.i64.wrap (Q - 1) = Q - 1 := i64_id (by omega) (by omega)
  have HC := hide (fun W => refE_any h W)
  have HD := hide (fun W => two_e h W)
  clear q h
  go_enter Try.func41, Try.ntmps41
  go_wp2_with fail
  refine (unhide HC _).mono ?_
  rintro _ w1 ⟨rfl, hb1⟩
  go_wp2_with fail
  refine (unhide HD _).mono ?_
  rintro _ w2 ⟨rfl, hb2⟩
  go_wp2_with fail
  go_ret
  exact ⟨rfl, bthen hb1 hb2⟩

theorem quo_u64 {c R : Int} (h0 : 0 ≤ c) (h1 : c < 18446744073709551616) (hR : 0 < R) : IntKind.u64.wrap (c.tdiv R) = c / R := by
  rw [Int.tdiv_eq_ediv_of_nonneg h0, IntKind.wrap_u64]
  have h2 := Int.ediv_le_self R h0
  have h3 := Int.ediv_nonneg h0 (Int.le_of_lt hR)
  omega
theorem frac_cut {w e f P Q b : Int} (x : Int) (h : Kd w e f P Q b) : cutN f P Q x / P % Q = x / P % Q ∧ (cutN f P Q x / (P * Q) == 1) = sg P Q x ∧ 0 ≤ cutN f P Q x ∧ cutN f P Q x < 18446744073709551616 := by
  unfold sg
  rcases h with ⟨rfl, rfl, rfl, rfl, rfl, rfl⟩ | ⟨rfl, rfl, rfl, rfl, rfl, rfl⟩
  · show (if (23 : Int) = 0 then 0 else x % 4294967296) / 8388608 % 256 = x / 8388608 % 256 ∧ ((if (23 : Int) = 0 then 0 else x % 4294967296) / 2147483648 == 1) = (x / 2147483648 % 2 == 1) ∧ (0 : Int) ≤ (if (23 : Int) = 0 then 0 else x % 4294967296) ∧ (if (23 : Int) = 0 then 0 else x % 4294967296) < 18446744073709551616
    rw [if_neg (show ¬ (23 : Int) = 0 by decide)]
    refine ⟨by omega, ?_, by omega, by omega⟩
    rw [show x % 4294967296 / 2147483648 = x / 2147483648 % 2 by omega]
  · show (if (52 : Int) = 0 then 0 else x % 18446744073709551616) / 4503599627370496 % 2048 = x / 4503599627370496 % 2048 ∧ ((if (52 : Int) = 0 then 0 else x % 18446744073709551616) / 9223372036854775808 == 1) = (x / 9223372036854775808 % 2 == 1) ∧ (0 : Int) ≤ (if (52 : Int) = 0 then 0 else x % 18446744073709551616) ∧ (if (52 : Int) = 0 then 0 else x % 18446744073709551616) < 18446744073709551616
    rw [if_neg (show ¬ (52 : Int) = 0 by decide)]
    refine ⟨by omega, ?_, by omega, by omega⟩
    rw [show x % 18446744073709551616 / 9223372036854775808 = x / 9223372036854775808 % 2 by omega]

set_option maxHeartbeats 400000 in
theorem refFrac_any {w e f P Q b : Int} (x : Int) (h : Kd w e f P Q b) (W : World) (h0 : 0 ≤ x) :
    Calls Try.prog 39 #[.int .i64 w, .int .u64 x] W fun r W' => r = .returned (.int .u64 (x % P)) ∧ Below W.heap.size W W' := by
  have HC := hide (fun W => refF_any h W)
  have HD := hide (fun W => two_f h W)
  have p0 : 0 < P := by rcases h with h | h <;> omega
  have p1 : (P == 0) = false := by simp; omega
  clear h
  go_enter Try.func39, Try.ntmps39
  go_wp2_with fail
  refine (unhide HC _).mono ?_
  rintro _ w1 ⟨rfl, hb1⟩
  go_wp2_with fail
  refine (unhide HD _).mono ?_
  rintro _ w2 ⟨rfl, hb2⟩
  go_wp2_with fail
  go_ret
  exact ⟨rfl, bthen hb1 hb2⟩

set_option maxHeartbeats 400000 in
theorem refNeg_any {w e f P Q b : Int} (x : Int) (h : Kd w e f P Q b) (W : World) (h0 : 0 ≤ x) (h1 : x < 18446744073709551616) :
    Calls Try.prog 40 #[.int .i64 w, .int .u64 x] W fun r W' => r = .returned (.bool (sg P Q x)) ∧ Below W.heap.size W W' := by
  have HC := hide (fun W => refCut_any x h W h0 h1)
  have HD := hide (fun W => two_w h W)
  have p0 : 0 < P * Q := by rcases h with ⟨_, _, _, rfl, rfl, _⟩ | ⟨_, _, _, rfl, rfl, _⟩ <;> decide
  have k1 : IntKind.i64.wrap (w - 1) = w - 1 := by rcases h with h | h <;> exact i64_id (by omega) (by omega)
  obtain ⟨c1, c2, c3, c4⟩ := frac_cut x h
  have HE := hide c2
  have k2 := quo_u64 c3 c4 p0
  clear c1 c2 c4 h h0 h1
  generalize cutN f P Q x = c at *
  generalize sg P Q x = n at *
  generalize P * Q = R at *
  go_enter Try.func40, Try.ntmps40
  go_wp2_with fail
  refine (unhide HC _).mono ?_
  rintro _ w1 ⟨rfl, hb1⟩
  go_wp2_with fail
  refine (unhide HD _).mono ?_
  rintro _ w2 ⟨rfl, hb2⟩
  go_wp2_with fail
  go_ret
  exact ⟨retb (unhide HE), bthen hb1 hb2⟩

set_option maxHeartbeats 1000000 in
theorem refExp_any {w e f P Q b : Int} (x : Int) (h : Kd w e f P Q b) (W : World) (h0 : 0 ≤ x) (h1 : x < 18446744073709551616) :
    Calls Try.prog 38 #[.int .i64 w, .int .u64 x] W fun r W' => r = .returned (.int .i64 (x / P % Q)) ∧ Below W.heap.size W W' := by
  have HC := hide (fun W => refCut_any x h W h0 h1)
  have HF := hide (fun W => refF_any h W)
  have HE := hide (fun W => refE_any h W)
  have HTf := hide (fun W => two_f h W)
  have HTe := hide (fun W => two_e h W)
  have p0 : 0 < P := by rcases h with h | h <;> omega
  have q0 : 0 < Q := by rcases h with h | h <;> omega
  have q1 : Q ≤ 2048 := by rcases h with h | h <;> omega
  obtain ⟨c1, c2, c3, c4⟩ := frac_cut x h
  have k2 := quo_u64 c3 c4 p0
  have p1 : ¬ P = 0 := by omega
  have q2 : ¬ Q = 0 := by omega
  have k3 : 0 ≤ cutN f P Q x / P := Int.ediv_nonneg c3 (Int.le_of_lt p0)
  have k4 : IntKind.i64.wrap (x / P % Q) = x / P % Q := by
    obtain ⟨u, v⟩ := exp_in (x / P) q0
    exact i64_id (by omega) (by omega)
  have k5 : (cutN f P Q x / P).tmod Q = x / P % Q := by rw [Int.tmod_eq_emod_of_nonneg k3, c1]
  clear c2 c4 h h0 h1 q1 p0 q0
  generalize x / P % Q = y at *
  generalize cutN f P Q x = c at *
  generalize c / P = d at *
  go_enter Try.func38, Try.ntmps38
  go_wp2_with fail
  have HB := hide ((Below.refl W.heap.size W).drew)
  refine wp_region_held_drew (S := Free) (by kernel_rfl) ?_ (fun hHeld => ?_)
  · (try dsimp only)
    exact free _
  refine lst0 13 (by kernel_rfl) ?_
  refine tkH 0 5 1 ?v0 rfl (by kernel_rfl) (by kernel_rfl) (fun _ _ _ h => h) (by assumption) (Or.inl ⟨by rfl, ?y0⟩) ?_
  case y0 => ((intro w hSw; (try dsimp only at hSw); go_simp) <;> with_reducible rfl)
  (try simp only [Act.put, List.setIfInBounds_toArray, List.set_cons_zero, List.set_cons_succ])
  refine tkH 1 6 3 ?v1 rfl (by kernel_rfl) (by kernel_rfl) (fun _ _ _ h => h) (by assumption) (Or.inl ⟨by rfl, ?y1⟩) ?_
  case y1 => ((intro w hSw; (try dsimp only at hSw); go_simp) <;> with_reducible rfl)
  (try simp only [Act.put, List.setIfInBounds_toArray, List.set_cons_zero, List.set_cons_succ])
  refine tkH 3 8 11 ?v3 rfl (by kernel_rfl) (by kernel_rfl) (fun _ _ _ h => h) (by assumption) (Or.inl ⟨by rfl, ?y3⟩) ?_
  case y3 => ((intro w hSw; (try dsimp only at hSw); go_simp) <;> with_reducible rfl)
  (try simp only [Act.put, List.setIfInBounds_toArray, List.set_cons_zero, List.set_cons_succ])
  refine tkH 7 12 139 ?v7 rfl (by kernel_rfl) (by kernel_rfl) (fun _ _ _ h => h) (by assumption) (Or.inl ⟨by rfl, ?y7⟩) ?_
  case y7 => ((intro w hSw; (try dsimp only at hSw); go_simp) <;> with_reducible rfl)
  (try simp only [Act.put, List.setIfInBounds_toArray, List.set_cons_zero, List.set_cons_succ])
  refine rdH 2 143 rfl (by kernel_rfl) (by kernel_rfl) (fun Kk hKk => ?_)
  go_simp
  refine (unhide HC _).mono ?_
  rintro _ wn ⟨rfl, hbl⟩
  have HB := hide (bthen (unhide HB) hbl)
  (try go_wp2_with fail)
  refine hKk.out _ _ ?_ (fun hHeld => ?_)
  · (try dsimp only)
    exact free _
  clear hKk Kk
  (try simp only [List.setIfInBounds_toArray, List.set_cons_zero, List.set_cons_succ])
  refine rdH 4 159 rfl (by kernel_rfl) (by kernel_rfl) (fun Kk hKk => ?_)
  go_simp
  refine (unhide HF _).mono ?_
  rintro _ wn ⟨rfl, hbl⟩
  have HB := hide (bthen (unhide HB) hbl)
  (try go_wp2_with fail)
  refine hKk.out _ _ ?_ (fun hHeld => ?_)
  · (try dsimp only)
    exact free _
  clear hKk Kk
  (try simp only [List.setIfInBounds_toArray, List.set_cons_zero, List.set_cons_succ])
  refine rdH 5 191 rfl (by kernel_rfl) (by kernel_rfl) (fun Kk hKk => ?_)
  go_simp
  refine (unhide HTf _).mono ?_
  rintro _ wn ⟨rfl, hbl⟩
  have HB := hide (bthen (unhide HB) hbl)
  (try go_wp2_with fail)
  refine hKk.out _ _ ?_ (fun hHeld => ?_)
  · (try dsimp only)
    exact free _
  clear hKk Kk
  (try simp only [List.setIfInBounds_toArray, List.set_cons_zero, List.set_cons_succ])
  refine tkH 6 11 255 ?v6 rfl (by kernel_rfl) (by kernel_rfl) (fun _ _ _ h => h) (by assumption) (Or.inl ⟨by rfl, ?y6⟩) ?_
  case y6 => ((intro w hSw; (try dsimp only at hSw); go_simp) <;> with_reducible rfl)
  (try simp only [Act.put, List.setIfInBounds_toArray, List.set_cons_zero, List.set_cons_succ])
  refine rdH 8 511 rfl (by kernel_rfl) (by kernel_rfl) (fun Kk hKk => ?_)
  go_simp
  refine (unhide HE _).mono ?_
  rintro _ wn ⟨rfl, hbl⟩
  have HB := hide (bthen (unhide HB) hbl)
  (try go_wp2_with fail)
  refine hKk.out _ _ ?_ (fun hHeld => ?_)
  · (try dsimp only)
    exact free _
  clear hKk Kk
  (try simp only [List.setIfInBounds_toArray, List.set_cons_zero, List.set_cons_succ])
  refine rdH 9 1023 rfl (by kernel_rfl) (by kernel_rfl) (fun Kk hKk => ?_)
  go_simp
  refine (unhide HTe _).mono ?_
  rintro _ wn ⟨rfl, hbl⟩
  have HB := hide (bthen (unhide HB) hbl)
  (try go_wp2_with fail)
  refine hKk.out _ _ ?_ (fun hHeld => ?_)
  · (try dsimp only)
    exact free _
  clear hKk Kk
  (try simp only [List.setIfInBounds_toArray, List.set_cons_zero, List.set_cons_succ])
  refine tkH 10 15 2047 ?v10 rfl (by kernel_rfl) (by kernel_rfl) (fun _ _ _ h => h) (by assumption) (Or.inl ⟨by rfl, ?y10⟩) ?_
  case y10 => ((intro w hSw; (try dsimp only at hSw); go_simp) <;> with_reducible rfl)
  (try simp only [Act.put, List.setIfInBounds_toArray, List.set_cons_zero, List.set_cons_succ])
  refine tkH 11 16 4095 ?v11 rfl (by kernel_rfl) (by kernel_rfl) (fun _ _ _ h => h) (by assumption) (Or.inl ⟨by rfl, ?y11⟩) ?_
  case y11 => ((intro w hSw; (try dsimp only at hSw); go_simp) <;> with_reducible rfl)
  (try simp only [Act.put, List.setIfInBounds_toArray, List.set_cons_zero, List.set_cons_succ])
  refine tkH 12 4 8191 ?v12 rfl (by kernel_rfl) (by kernel_rfl) (fun _ _ _ h => h) (by assumption) (Or.inl ⟨by rfl, ?y12⟩) ?_
  case y12 => ((intro w hSw; (try dsimp only at hSw); go_simp) <;> with_reducible rfl)
  (try simp only [Act.put, List.setIfInBounds_toArray, List.set_cons_zero, List.set_cons_succ])
  refine wpAnyH_done (by kernel_rfl) ?_ _
  go_wp2_with fail
  go_ret
  exact ⟨rfl, unhide HB⟩

theorem put_no {f P Q x y : Int} (hf : f ≠ 0) : put f P Q false x y = x * P + y := by unfold put; rw [if_neg hf]; simp
theorem put_yes {f P Q x y : Int} (hf : f ≠ 0) : put f P Q true x y = x * P + y + P * Q := by unfold put; rw [if_neg hf]; simp

set_option maxHeartbeats 1000000 in
theorem make_any {w e f P Q b : Int} (n : Bool) (x y : Int) (h : Kd w e f P Q b) (W : World) (x0 : 0 ≤ x) (x1 : x < Q) (y0 : 0 ≤ y) (y1 : y < P) :
    Calls Try.prog 22 #[.int .i64 w, .bool n, .int .i64 x, .int .u64 y] W fun r W' => r = .returned (.int .u64 (put f P Q n x y)) ∧ Below W.heap.size W W' := by
  have HC := hide (fun W => refF_any h W)
  have HD := hide (fun W => two_f h W)
  have HW := hide (fun W => two_w h W)
  have a1 : IntKind.u64.wrap x = x := by rw [IntKind.wrap_u64]; rcases h with h | h <;> omega
  have a2 : IntKind.u64.wrap (x * P) = x * P := by rw [IntKind.wrap_u64]; rcases h with ⟨_, _, _, rfl, rfl, _⟩ | ⟨_, _, _, rfl, rfl, _⟩ <;> omega
  have a3 : IntKind.u64.wrap (x * P + y) = x * P + y := by rw [IntKind.wrap_u64]; rcases h with ⟨_, _, _, rfl, rfl, _⟩ | ⟨_, _, _, rfl, rfl, _⟩ <;> omega
  have a4 : IntKind.u64.wrap (x * P + y + P * Q) = x * P + y + P * Q := by rw [IntKind.wrap_u64]; rcases h with ⟨_, _, _, rfl, rfl, _⟩ | ⟨_, _, _, rfl, rfl, _⟩ <;> omega
  have a5 : IntKind.i64.wrap (w - 1) = w - 1 := by rcases h with h | h <;> exact i64_id (by omega) (by omega)
  have HN := hide (put_no (P := P) (Q := Q) (x := x) (y := y) h.f0)
  have HY := hide (put_yes (P := P) (Q := Q) (x := x) (y := y) h.f0)
  clear h x0 x1 y0 y1
  generalize P * Q = R at *
  cases n
  · go_enter Try.func22, Try.ntmps22
    go_wp2_with fail
    refine (unhide HC _).mono ?_
    rintro _ w1 ⟨rfl, hb1⟩
    go_wp2_with fail
    refine (unhide HD _).mono ?_
    rintro _ w2 ⟨rfl, hb2⟩
    go_wp2_with fail
    go_ret
    exact ⟨ret1 (by rw [unhide HN]), bthen hb1 hb2⟩
  · go_enter Try.func22, Try.ntmps22
    go_wp2_with fail
    refine (unhide HC _).mono ?_
    rintro _ w1 ⟨rfl, hb1⟩
    go_wp2_with fail
    refine (unhide HD _).mono ?_
    rintro _ w2 ⟨rfl, hb2⟩
    go_wp2_with fail
    refine (unhide HW _).mono ?_
    rintro _ w3 ⟨rfl, hb3⟩
    go_wp2_with fail
    go_ret
    exact ⟨ret1 (by rw [unhide HY]), bthen (bthen hb1 hb2) hb3⟩

theorem Kd.pos {w e f P Q b : Int} (h : Kd w e f P Q b) : 2 ≤ P ∧ P ≤ 4503599627370496 ∧ 2 ≤ Q ∧ Q ≤ 2048 := by rcases h with h | h <;> omega

set_option maxHeartbeats 1000000 in
theorem refNan_any {w e f P Q b : Int} (h : Kd w e f P Q b) (W : World) :
    Calls Try.prog 30 #[.int .i64 w] W fun r W' => r = .returned (.int .u64 (put f P Q false (Q - 1) (P / 2))) ∧ Below W.heap.size W W' := by
  obtain ⟨p1, p2, q1, q2⟩ := h.pos
  have HT := hide (fun W => refTop_any h W)
  have HF := hide (fun W => refF_any h W)
  have HH := hide (fun W => two_h h W)
  have HM := hide (fun W => make_any false (Q - 1) (P / 2) h W (by omega) (by omega) (by omega) (by omega))
  have a5 : IntKind.i64.wrap (f - 1) = f - 1 := by rcases h with h | h <;> exact i64_id (by omega) (by omega)
  clear h p1 p2 q1 q2
  go_enter Try.func30, Try.ntmps30
  go_wp2_with fail
  refine (unhide HT _).mono ?_
  rintro _ w1 ⟨rfl, hb1⟩
  go_wp2_with fail
  refine (unhide HF _).mono ?_
  rintro _ w2 ⟨rfl, hb2⟩
  go_wp2_with fail
  refine (unhide HH _).mono ?_
  rintro _ w3 ⟨rfl, hb3⟩
  go_wp2_with fail
  refine (unhide HM _).mono ?_
  rintro _ w4 ⟨rfl, hb4⟩
  go_wp2_with fail
  go_ret
  exact ⟨rfl, bthen (bthen (bthen hb1 hb2) hb3) hb4⟩

set_option maxHeartbeats 1000000 in
theorem refInf_any {w e f P Q b : Int} (n : Bool) (h : Kd w e f P Q b) (W : World) :
    Calls Try.prog 66 #[.int .i64 w, .bool n] W fun r W' => r = .returned (.int .u64 (put f P Q n (Q - 1) 0)) ∧ Below W.heap.size W W' := by
  obtain ⟨p1, p2, q1, q2⟩ := h.pos
  have HT := hide (fun W => refTop_any h W)
  have HM := hide (fun W => make_any n (Q - 1) 0 h W (by omega) (by omega) (by omega) (by omega))
  clear h p1 p2 q1 q2
  go_enter Try.func66, Try.ntmps66
  go_wp2_with fail
  refine (unhide HT _).mono ?_
  rintro _ w1 ⟨rfl, hb1⟩
  go_wp2_with fail
  refine (unhide HM _).mono ?_
  rintro _ w4 ⟨rfl, hb4⟩
  go_wp2_with fail
  go_ret
  exact ⟨rfl, bthen hb1 hb4⟩

end Go.Proofs.Ytepdmpcgkecjiaa
namespace Go.Proofs.Ytepdmpcgkecjiaa
open Go.RowKit

theorem bset4 {a b : World} (h : Below a.heap.size a b) (v0 v1 v2 v3 : Value) : Below a.heap.size a ((((b.setCell ⟨a.heap.size, 0, none⟩ v0).setCell ⟨a.heap.size, 1, none⟩ v1).setCell ⟨a.heap.size, 2, none⟩ v2).setCell ⟨a.heap.size, 3, none⟩ v3) :=
  bset (bset (bset (bset h _ (Nat.le_refl _) _ _) _ (Nat.le_refl _) _ _) _ (Nat.le_refl _) _ _) _ (Nat.le_refl _) _ _
theorem room4 {W w1 : World} {v0 v1 v2 v3 : Value} {t : TypeId} (hb : Below (W.alloc (.cells #[v0, v1, v2, v3] t)).heap.size (W.alloc (.cells #[v0, v1, v2, v3] t)) w1) : Room W.heap.size 4 w1 :=
  Room.below (w := W.alloc (.cells #[v0, v1, v2, v3] t)) (by
    intro o ho
    match o, ho with
    | 0, _ | 1, _ | 2, _ | 3, _ => simp [go_sem]) hb
theorem At5.set {b c : Nat} {x y z u v : Value} {w : World} (h : At5 b x y z u v w) (hc : b ≠ c) (o : Nat) (k : Value) : At5 b x y z u v (w.setCell ⟨c, o, none⟩ k) :=
  ⟨keep_set _ _ _ hc h.1, keep_set _ _ _ hc h.2.1, keep_set _ _ _ hc h.2.2.1, keep_set _ _ _ hc h.2.2.2.1, keep_set _ _ _ hc h.2.2.2.2⟩

set_option maxRecDepth 100000 in
set_option maxHeartbeats 4000000 in
theorem open_no {w e f P Q b : Int} (x xx yy : Int) (n : Bool) (_ : Sz e f P Q b) (W : World)
    (HT : Hid (∀ W, Calls Try.prog 47 #[.int .i64 w, .int .u64 x] W fun r W' => r = .returned (.agg #[.int .i64 e, .int .i64 f, .bool n, .int .u64 xx, .int .u64 yy]) ∧ Below W.heap.size W W')) (hf : (f != 0) = false) :
    Calls Try.prog 16 #[.int .i64 w, .int .u64 x] W fun r W' => r = .returned (.agg #[.bool false, .int .i64 0, .int .i64 0, .int .u64 0]) ∧ Below W.heap.size W W' := by
  go_enter Try.func16, Try.ntmps16
  go_wp2_with fail
  refine (unhide HT _).mono ?_
  rintro _ w1 ⟨rfl, hbl⟩
  have HR := hide ((room4 hbl).alloc (.cells #[.int .i64 e, .int .i64 f, .bool n, .int .u64 xx, .int .u64 yy] 62))
  have HB := hide (balloc (bthen (below1 _ _) hbl) (.cells #[.int .i64 e, .int .i64 f, .bool n, .int .u64 xx, .int .u64 yy] 62))
  have HA : Hid (At5 w1.heap.size (.int .i64 e) (.int .i64 f) (.bool n) (.int .u64 xx) (.int .u64 yy) (w1.alloc (.cells #[.int .i64 e, .int .i64 f, .bool n, .int .u64 xx, .int .u64 yy] 62))) := by unfold Hid At5; simp [go_sem]
  have hz1 : W.heap.size < w1.heap.size := by have := hbl.size; simp at this; omega
  clear hbl HT
  go_wp2_with fail
  refine (known_any e f _).mono ?_
  rintro _ w2 ⟨rfl, hbl⟩
  have HB := hide (bthen (unhide HB) hbl)
  have HA := hide ((unhide HA).below hbl)
  have HR := hide ((unhide HR).below hbl)
  clear hbl
  obtain ⟨⟨v0, c0⟩, f0⟩ := (unhide HR) 0 (by omega)
  obtain ⟨⟨v1, c1⟩, f1⟩ := (unhide HR) 1 (by omega)
  obtain ⟨⟨v2, c2⟩, f2⟩ := (unhide HR) 2 (by omega)
  obtain ⟨⟨v3, c3⟩, f3⟩ := (unhide HR) 3 (by omega)
  go_wp2_with fail
  exact bodyPost_ret (v := .agg #[.bool false, .int .i64 0, .int .i64 0, .int .u64 0]) (by simp (maxDischargeDepth := 8) [results, Try.results16, go_sem, c0, c1, c2, c3]) rfl ⟨rfl, bset4 (unhide HB) _ _ _ _⟩

set_option maxRecDepth 100000 in
set_option maxHeartbeats 4000000 in
theorem open_nan {w e f P Q b : Int} (x xx yy : Int) (n : Bool) (hs : Sz e f P Q b) (W : World)
    (HT : Hid (∀ W, Calls Try.prog 47 #[.int .i64 w, .int .u64 x] W fun r W' => r = .returned (.agg #[.int .i64 e, .int .i64 f, .bool n, .int .u64 xx, .int .u64 yy]) ∧ Below W.heap.size W W')) (hf : (f != 0) = true) (h1 : (xx == Q - 1) = true) (h2 : (yy != 0) = true) :
    Calls Try.prog 16 #[.int .i64 w, .int .u64 x] W fun r W' => r = .returned (.agg #[.bool false, .int .i64 3, .int .i64 0, .int .u64 0]) ∧ Below W.heap.size W W' := by
  go_enter Try.func16, Try.ntmps16
  go_wp2_with fail
  refine (unhide HT _).mono ?_
  rintro _ w1 ⟨rfl, hbl⟩
  have HR := hide ((room4 hbl).alloc (.cells #[.int .i64 e, .int .i64 f, .bool n, .int .u64 xx, .int .u64 yy] 62))
  have HB := hide (balloc (bthen (below1 _ _) hbl) (.cells #[.int .i64 e, .int .i64 f, .bool n, .int .u64 xx, .int .u64 yy] 62))
  have HA : Hid (At5 w1.heap.size (.int .i64 e) (.int .i64 f) (.bool n) (.int .u64 xx) (.int .u64 yy) (w1.alloc (.cells #[.int .i64 e, .int .i64 f, .bool n, .int .u64 xx, .int .u64 yy] 62))) := by unfold Hid At5; simp [go_sem]
  have hz1 : W.heap.size < w1.heap.size := by have := hbl.size; simp at this; omega
  clear hbl HT
  go_wp2_with fail
  refine (known_any e f _).mono ?_
  rintro _ w2 ⟨rfl, hbl⟩
  have HB := hide (bthen (unhide HB) hbl)
  have HA := hide ((unhide HA).below hbl)
  have HR := hide ((unhide HR).below hbl)
  clear hbl
  obtain ⟨a0, a1, a2, a3, a4⟩ := unhide HA
  go_wp2_with fail
  refine (isNan_any n xx yy hs _).mono ?_
  rintro _ w3 ⟨rfl, hbl⟩
  clear a0 a1 a2 a3 a4
  have HB := hide (bthen (unhide HB) hbl)
  have HA := hide ((unhide HA).below hbl)
  have HR := hide ((unhide HR).below hbl)
  clear hbl
  obtain ⟨⟨v0, c0⟩, f0⟩ := (unhide HR) 0 (by omega)
  obtain ⟨⟨v1, c1⟩, f1⟩ := (unhide HR) 1 (by omega)
  obtain ⟨⟨v2, c2⟩, f2⟩ := (unhide HR) 2 (by omega)
  obtain ⟨⟨v3, c3⟩, f3⟩ := (unhide HR) 3 (by omega)
  rw [h1, h2]
  go_wp2_with fail
  exact bodyPost_ret (v := .agg #[.bool false, .int .i64 3, .int .i64 0, .int .u64 0]) (by simp (maxDischargeDepth := 8) [results, Try.results16, go_sem, c0, c1, c2, c3]) rfl ⟨rfl, bset4 (unhide HB) _ _ _ _⟩

set_option maxRecDepth 100000 in
set_option maxHeartbeats 4000000 in
theorem open_inf {w e f P Q b : Int} (x xx yy : Int) (n : Bool) (hs : Sz e f P Q b) (W : World)
    (HT : Hid (∀ W, Calls Try.prog 47 #[.int .i64 w, .int .u64 x] W fun r W' => r = .returned (.agg #[.int .i64 e, .int .i64 f, .bool n, .int .u64 xx, .int .u64 yy]) ∧ Below W.heap.size W W')) (hf : (f != 0) = true) (h1 : (xx == Q - 1) = true) (h2 : (yy != 0) = false) :
    Calls Try.prog 16 #[.int .i64 w, .int .u64 x] W fun r W' => r = .returned (.agg #[.bool n, .int .i64 2, .int .i64 0, .int .u64 0]) ∧ Below W.heap.size W W' := by
  go_enter Try.func16, Try.ntmps16
  go_wp2_with fail
  refine (unhide HT _).mono ?_
  rintro _ w1 ⟨rfl, hbl⟩
  have HR := hide ((room4 hbl).alloc (.cells #[.int .i64 e, .int .i64 f, .bool n, .int .u64 xx, .int .u64 yy] 62))
  have HB := hide (balloc (bthen (below1 _ _) hbl) (.cells #[.int .i64 e, .int .i64 f, .bool n, .int .u64 xx, .int .u64 yy] 62))
  have HA : Hid (At5 w1.heap.size (.int .i64 e) (.int .i64 f) (.bool n) (.int .u64 xx) (.int .u64 yy) (w1.alloc (.cells #[.int .i64 e, .int .i64 f, .bool n, .int .u64 xx, .int .u64 yy] 62))) := by unfold Hid At5; simp [go_sem]
  have hz1 : W.heap.size < w1.heap.size := by have := hbl.size; simp at this; omega
  clear hbl HT
  go_wp2_with fail
  refine (known_any e f _).mono ?_
  rintro _ w2 ⟨rfl, hbl⟩
  have HB := hide (bthen (unhide HB) hbl)
  have HA := hide ((unhide HA).below hbl)
  have HR := hide ((unhide HR).below hbl)
  clear hbl
  obtain ⟨a0, a1, a2, a3, a4⟩ := unhide HA
  go_wp2_with fail
  refine (isNan_any n xx yy hs _).mono ?_
  rintro _ w3 ⟨rfl, hbl⟩
  clear a0 a1 a2 a3 a4
  have HB := hide (bthen (unhide HB) hbl)
  have HA := hide ((unhide HA).below hbl)
  have HR := hide ((unhide HR).below hbl)
  clear hbl
  rw [h1, h2]
  go_wp2_with fail
  have HB := hide (unhide HB).drew
  have HA := hide ((unhide HA).below ((Below.refl _ _).drew))
  have HR := hide (unhide HR).drew
  refine wp_region_held_drew (S := fun w' => (w'.cell? ⟨w1.heap.size, 0, none⟩ = some (.int .i64 e) ∧ w'.cell? ⟨w1.heap.size, 1, none⟩ = some (.int .i64 f) ∧ w'.cell? ⟨w1.heap.size, 2, none⟩ = some (.bool n) ∧ w'.cell? ⟨w1.heap.size, 3, none⟩ = some (.int .u64 xx) ∧ w'.cell? ⟨w1.heap.size, 4, none⟩ = some (.int .u64 yy)) ∧ Room W.heap.size 4 w') (by kernel_rfl) ?_ (fun hHeld => ?_)
  · (try dsimp only)
    exact ⟨unhide HA, unhide HR⟩
  refine lst0 7 (by kernel_rfl) ?_
  refine tkH 0 20 1 ?v0r6 rfl (by kernel_rfl) (by kernel_rfl) (fun _ _ _ h => h) (by assumption) (Or.inl ⟨by rfl, ?y0r6⟩) ?_
  case y0r6 => ((intro w hSw; (try dsimp only at hSw); go_simp) <;> with_reducible rfl)
  (try simp only [Act.put, List.setIfInBounds_toArray, List.set_cons_zero, List.set_cons_succ])
  refine tkH 1 21 3 ?v1r6 rfl (by kernel_rfl) (by kernel_rfl) (fun _ _ _ h => h) (by assumption) (Or.inl ⟨by rfl, ?y1r6⟩) ?_
  case y1r6 => ((intro w hSw; (try dsimp only at hSw); go_simp) <;> with_reducible rfl)
  (try simp only [Act.put, List.setIfInBounds_toArray, List.set_cons_zero, List.set_cons_succ])
  refine tkH 2 22 7 ?v2r6 rfl (by kernel_rfl) (by kernel_rfl) (fun _ _ _ h => h) (by assumption) (Or.inl ⟨by rfl, ?y2r6⟩) ?_
  case y2r6 => ((intro w hSw; (try dsimp only at hSw); go_simp) <;> with_reducible rfl)
  (try simp only [Act.put, List.setIfInBounds_toArray, List.set_cons_zero, List.set_cons_succ])
  refine tkH 3 23 15 ?v3r6 rfl (by kernel_rfl) (by kernel_rfl) (fun _ _ _ h => h) (by assumption) (Or.inl ⟨by rfl, ?y3r6⟩) ?_
  case y3r6 => ((intro w hSw; (try dsimp only at hSw); go_simp) <;> with_reducible rfl)
  (try simp only [Act.put, List.setIfInBounds_toArray, List.set_cons_zero, List.set_cons_succ])
  refine rdH 4 31 rfl (by kernel_rfl) (by kernel_rfl) (fun Kk hKk => ?_)
  go_simp
  refine (last_any hs _).mono ?_
  rintro _ w4 ⟨rfl, hbl⟩
  have HB := hide (bthen (unhide HB) hbl)
  have HA := hide ((unhide HA).below hbl)
  have HR := hide ((unhide HR).below hbl)
  clear hbl
  (try go_wp2_with fail)
  refine hKk.out _ _ ?_ (fun hHeld => ?_)
  · (try dsimp only)
    exact ⟨unhide HA, unhide HR⟩
  clear hKk Kk
  (try simp only [List.setIfInBounds_toArray, List.set_cons_zero, List.set_cons_succ])
  refine tkH 5 25 63 ?v5r6 rfl (by kernel_rfl) (by kernel_rfl) (fun _ _ _ h => h) (by assumption) (Or.inl ⟨by rfl, ?y5r6⟩) ?_
  case y5r6 => ((intro w hSw; (try dsimp only at hSw); go_simp) <;> with_reducible rfl)
  (try simp only [Act.put, List.setIfInBounds_toArray, List.set_cons_zero, List.set_cons_succ])
  refine tkH 6 19 127 ?v6r6 rfl (by kernel_rfl) (by kernel_rfl) (fun _ _ _ h => h) (by assumption) (Or.inl ⟨by rfl, ?y6r6⟩) ?_
  case y6r6 => ((intro w hSw; (try dsimp only at hSw); go_simp) <;> with_reducible rfl)
  (try simp only [Act.put, List.setIfInBounds_toArray, List.set_cons_zero, List.set_cons_succ])
  refine wpAnyH_done (by kernel_rfl) ?_ _
  clear hHeld
  obtain ⟨a0, a1, a2, a3, a4⟩ := unhide HA
  obtain ⟨⟨v0, c0⟩, f0⟩ := (unhide HR) 0 (by omega)
  obtain ⟨⟨v1, c1⟩, f1⟩ := (unhide HR) 1 (by omega)
  obtain ⟨⟨v2, c2⟩, f2⟩ := (unhide HR) 2 (by omega)
  obtain ⟨⟨v3, c3⟩, f3⟩ := (unhide HR) 3 (by omega)
  go_wp2_with fail
  exact bodyPost_ret (v := .agg #[.bool n, .int .i64 2, .int .i64 0, .int .u64 0]) (by simp (maxDischargeDepth := 8) [results, Try.results16, go_sem, c0, c1, c2, c3]) rfl ⟨rfl, bset4 (unhide HB) _ _ _ _⟩

set_option maxRecDepth 100000 in
set_option maxHeartbeats 4000000 in
theorem open_zer {w e f P Q b : Int} (x xx yy : Int) (n : Bool) (hs : Sz e f P Q b) (W : World)
    (HT : Hid (∀ W, Calls Try.prog 47 #[.int .i64 w, .int .u64 x] W fun r W' => r = .returned (.agg #[.int .i64 e, .int .i64 f, .bool n, .int .u64 xx, .int .u64 yy]) ∧ Below W.heap.size W W')) (hf : (f != 0) = true) (h1 : (xx == Q - 1) = false) (h3 : (xx != 0) = false) (h2 : (yy != 0) = false) :
    Calls Try.prog 16 #[.int .i64 w, .int .u64 x] W fun r W' => r = .returned (.agg #[.bool n, .int .i64 0, .int .i64 0, .int .u64 0]) ∧ Below W.heap.size W W' := by
  go_enter Try.func16, Try.ntmps16
  go_wp2_with fail
  refine (unhide HT _).mono ?_
  rintro _ w1 ⟨rfl, hbl⟩
  have HR := hide ((room4 hbl).alloc (.cells #[.int .i64 e, .int .i64 f, .bool n, .int .u64 xx, .int .u64 yy] 62))
  have HB := hide (balloc (bthen (below1 _ _) hbl) (.cells #[.int .i64 e, .int .i64 f, .bool n, .int .u64 xx, .int .u64 yy] 62))
  have HA : Hid (At5 w1.heap.size (.int .i64 e) (.int .i64 f) (.bool n) (.int .u64 xx) (.int .u64 yy) (w1.alloc (.cells #[.int .i64 e, .int .i64 f, .bool n, .int .u64 xx, .int .u64 yy] 62))) := by unfold Hid At5; simp [go_sem]
  have hz1 : W.heap.size < w1.heap.size := by have := hbl.size; simp at this; omega
  clear hbl HT
  go_wp2_with fail
  refine (known_any e f _).mono ?_
  rintro _ w2 ⟨rfl, hbl⟩
  have HB := hide (bthen (unhide HB) hbl)
  have HA := hide ((unhide HA).below hbl)
  have HR := hide ((unhide HR).below hbl)
  clear hbl
  obtain ⟨a0, a1, a2, a3, a4⟩ := unhide HA
  go_wp2_with fail
  refine (isNan_any n xx yy hs _).mono ?_
  rintro _ w3 ⟨rfl, hbl⟩
  clear a0 a1 a2 a3 a4
  have HB := hide (bthen (unhide HB) hbl)
  have HA := hide ((unhide HA).below hbl)
  have HR := hide ((unhide HR).below hbl)
  clear hbl
  rw [h1, Bool.false_and]
  go_wp2_with fail
  have HB := hide (unhide HB).drew
  have HA := hide ((unhide HA).below ((Below.refl _ _).drew))
  have HR := hide (unhide HR).drew
  refine wp_region_held_drew (S := fun w' => (w'.cell? ⟨w1.heap.size, 0, none⟩ = some (.int .i64 e) ∧ w'.cell? ⟨w1.heap.size, 1, none⟩ = some (.int .i64 f) ∧ w'.cell? ⟨w1.heap.size, 2, none⟩ = some (.bool n) ∧ w'.cell? ⟨w1.heap.size, 3, none⟩ = some (.int .u64 xx) ∧ w'.cell? ⟨w1.heap.size, 4, none⟩ = some (.int .u64 yy)) ∧ Room W.heap.size 4 w') (by kernel_rfl) ?_ (fun hHeld => ?_)
  · (try dsimp only)
    exact ⟨unhide HA, unhide HR⟩
  refine lst0 7 (by kernel_rfl) ?_
  refine tkH 0 20 1 ?v0r6 rfl (by kernel_rfl) (by kernel_rfl) (fun _ _ _ h => h) (by assumption) (Or.inl ⟨by rfl, ?y0r6⟩) ?_
  case y0r6 => ((intro w hSw; (try dsimp only at hSw); go_simp) <;> with_reducible rfl)
  (try simp only [Act.put, List.setIfInBounds_toArray, List.set_cons_zero, List.set_cons_succ])
  refine tkH 1 21 3 ?v1r6 rfl (by kernel_rfl) (by kernel_rfl) (fun _ _ _ h => h) (by assumption) (Or.inl ⟨by rfl, ?y1r6⟩) ?_
  case y1r6 => ((intro w hSw; (try dsimp only at hSw); go_simp) <;> with_reducible rfl)
  (try simp only [Act.put, List.setIfInBounds_toArray, List.set_cons_zero, List.set_cons_succ])
  refine tkH 2 22 7 ?v2r6 rfl (by kernel_rfl) (by kernel_rfl) (fun _ _ _ h => h) (by assumption) (Or.inl ⟨by rfl, ?y2r6⟩) ?_
  case y2r6 => ((intro w hSw; (try dsimp only at hSw); go_simp) <;> with_reducible rfl)
  (try simp only [Act.put, List.setIfInBounds_toArray, List.set_cons_zero, List.set_cons_succ])
  refine tkH 3 23 15 ?v3r6 rfl (by kernel_rfl) (by kernel_rfl) (fun _ _ _ h => h) (by assumption) (Or.inl ⟨by rfl, ?y3r6⟩) ?_
  case y3r6 => ((intro w hSw; (try dsimp only at hSw); go_simp) <;> with_reducible rfl)
  (try simp only [Act.put, List.setIfInBounds_toArray, List.set_cons_zero, List.set_cons_succ])
  refine rdH 4 31 rfl (by kernel_rfl) (by kernel_rfl) (fun Kk hKk => ?_)
  go_simp
  refine (last_any hs _).mono ?_
  rintro _ w4 ⟨rfl, hbl⟩
  have HB := hide (bthen (unhide HB) hbl)
  have HA := hide ((unhide HA).below hbl)
  have HR := hide ((unhide HR).below hbl)
  clear hbl
  (try go_wp2_with fail)
  refine hKk.out _ _ ?_ (fun hHeld => ?_)
  · (try dsimp only)
    exact ⟨unhide HA, unhide HR⟩
  clear hKk Kk
  (try simp only [List.setIfInBounds_toArray, List.set_cons_zero, List.set_cons_succ])
  refine tkH 5 25 63 ?v5r6 rfl (by kernel_rfl) (by kernel_rfl) (fun _ _ _ h => h) (by assumption) (Or.inl ⟨by rfl, ?y5r6⟩) ?_
  case y5r6 => ((intro w hSw; (try dsimp only at hSw); go_simp) <;> with_reducible rfl)
  (try simp only [Act.put, List.setIfInBounds_toArray, List.set_cons_zero, List.set_cons_succ])
  refine tkH 6 19 127 ?v6r6 rfl (by kernel_rfl) (by kernel_rfl) (fun _ _ _ h => h) (by assumption) (Or.inl ⟨by rfl, ?y6r6⟩) ?_
  case y6r6 => ((intro w hSw; (try dsimp only at hSw); go_simp) <;> with_reducible rfl)
  (try simp only [Act.put, List.setIfInBounds_toArray, List.set_cons_zero, List.set_cons_succ])
  refine wpAnyH_done (by kernel_rfl) ?_ _
  clear hHeld
  obtain ⟨a0, a1, a2, a3, a4⟩ := unhide HA
  obtain ⟨⟨v0, c0⟩, f0⟩ := (unhide HR) 0 (by omega)
  obtain ⟨⟨v1, c1⟩, f1⟩ := (unhide HR) 1 (by omega)
  obtain ⟨⟨v2, c2⟩, f2⟩ := (unhide HR) 2 (by omega)
  obtain ⟨⟨v3, c3⟩, f3⟩ := (unhide HR) 3 (by omega)
  go_wp2_with fail
  exact bodyPost_ret (v := .agg #[.bool n, .int .i64 0, .int .i64 0, .int .u64 0]) (by simp (maxDischargeDepth := 8) [results, Try.results16, go_sem, c0, c1, c2, c3]) rfl ⟨rfl, bset4 (unhide HB) _ _ _ _⟩

set_option maxRecDepth 100000 in
set_option maxHeartbeats 4000000 in
theorem open_sub {w e f P Q b : Int} (x xx yy : Int) (n : Bool) (hs : Sz e f P Q b) (W : World)
    (HT : Hid (∀ W, Calls Try.prog 47 #[.int .i64 w, .int .u64 x] W fun r W' => r = .returned (.agg #[.int .i64 e, .int .i64 f, .bool n, .int .u64 xx, .int .u64 yy]) ∧ Below W.heap.size W W')) (hf : (f != 0) = true) (h1 : (xx == Q - 1) = false) (h3 : (xx != 0) = false) (h2 : (yy != 0) = true) :
    Calls Try.prog 16 #[.int .i64 w, .int .u64 x] W fun r W' => r = .returned (.agg #[.bool n, .int .i64 1, .int .i64 (1 - b - f), .int .u64 yy]) ∧ Below W.heap.size W W' := by
  go_enter Try.func16, Try.ntmps16
  go_wp2_with fail
  refine (unhide HT _).mono ?_
  rintro _ w1 ⟨rfl, hbl⟩
  have HR := hide ((room4 hbl).alloc (.cells #[.int .i64 e, .int .i64 f, .bool n, .int .u64 xx, .int .u64 yy] 62))
  have HB := hide (balloc (bthen (below1 _ _) hbl) (.cells #[.int .i64 e, .int .i64 f, .bool n, .int .u64 xx, .int .u64 yy] 62))
  have HA : Hid (At5 w1.heap.size (.int .i64 e) (.int .i64 f) (.bool n) (.int .u64 xx) (.int .u64 yy) (w1.alloc (.cells #[.int .i64 e, .int .i64 f, .bool n, .int .u64 xx, .int .u64 yy] 62))) := by unfold Hid At5; simp [go_sem]
  have hz1 : W.heap.size < w1.heap.size := by have := hbl.size; simp at this; omega
  clear hbl HT
  go_wp2_with fail
  refine (known_any e f _).mono ?_
  rintro _ w2 ⟨rfl, hbl⟩
  have HB := hide (bthen (unhide HB) hbl)
  have HA := hide ((unhide HA).below hbl)
  have HR := hide ((unhide HR).below hbl)
  clear hbl
  obtain ⟨a0, a1, a2, a3, a4⟩ := unhide HA
  go_wp2_with fail
  refine (isNan_any n xx yy hs _).mono ?_
  rintro _ w3 ⟨rfl, hbl⟩
  clear a0 a1 a2 a3 a4
  have HB := hide (bthen (unhide HB) hbl)
  have HA := hide ((unhide HA).below hbl)
  have HR := hide ((unhide HR).below hbl)
  clear hbl
  rw [h1, Bool.false_and]
  go_wp2_with fail
  have HB := hide (unhide HB).drew
  have HA := hide ((unhide HA).below ((Below.refl _ _).drew))
  have HR := hide (unhide HR).drew
  refine wp_region_held_drew (S := fun w' => (w'.cell? ⟨w1.heap.size, 0, none⟩ = some (.int .i64 e) ∧ w'.cell? ⟨w1.heap.size, 1, none⟩ = some (.int .i64 f) ∧ w'.cell? ⟨w1.heap.size, 2, none⟩ = some (.bool n) ∧ w'.cell? ⟨w1.heap.size, 3, none⟩ = some (.int .u64 xx) ∧ w'.cell? ⟨w1.heap.size, 4, none⟩ = some (.int .u64 yy)) ∧ Room W.heap.size 4 w') (by kernel_rfl) ?_ (fun hHeld => ?_)
  · (try dsimp only)
    exact ⟨unhide HA, unhide HR⟩
  refine lst0 7 (by kernel_rfl) ?_
  refine tkH 0 20 1 ?v0r6 rfl (by kernel_rfl) (by kernel_rfl) (fun _ _ _ h => h) (by assumption) (Or.inl ⟨by rfl, ?y0r6⟩) ?_
  case y0r6 => ((intro w hSw; (try dsimp only at hSw); go_simp) <;> with_reducible rfl)
  (try simp only [Act.put, List.setIfInBounds_toArray, List.set_cons_zero, List.set_cons_succ])
  refine tkH 1 21 3 ?v1r6 rfl (by kernel_rfl) (by kernel_rfl) (fun _ _ _ h => h) (by assumption) (Or.inl ⟨by rfl, ?y1r6⟩) ?_
  case y1r6 => ((intro w hSw; (try dsimp only at hSw); go_simp) <;> with_reducible rfl)
  (try simp only [Act.put, List.setIfInBounds_toArray, List.set_cons_zero, List.set_cons_succ])
  refine tkH 2 22 7 ?v2r6 rfl (by kernel_rfl) (by kernel_rfl) (fun _ _ _ h => h) (by assumption) (Or.inl ⟨by rfl, ?y2r6⟩) ?_
  case y2r6 => ((intro w hSw; (try dsimp only at hSw); go_simp) <;> with_reducible rfl)
  (try simp only [Act.put, List.setIfInBounds_toArray, List.set_cons_zero, List.set_cons_succ])
  refine tkH 3 23 15 ?v3r6 rfl (by kernel_rfl) (by kernel_rfl) (fun _ _ _ h => h) (by assumption) (Or.inl ⟨by rfl, ?y3r6⟩) ?_
  case y3r6 => ((intro w hSw; (try dsimp only at hSw); go_simp) <;> with_reducible rfl)
  (try simp only [Act.put, List.setIfInBounds_toArray, List.set_cons_zero, List.set_cons_succ])
  refine rdH 4 31 rfl (by kernel_rfl) (by kernel_rfl) (fun Kk hKk => ?_)
  go_simp
  refine (last_any hs _).mono ?_
  rintro _ w4 ⟨rfl, hbl⟩
  have HB := hide (bthen (unhide HB) hbl)
  have HA := hide ((unhide HA).below hbl)
  have HR := hide ((unhide HR).below hbl)
  clear hbl
  (try go_wp2_with fail)
  refine hKk.out _ _ ?_ (fun hHeld => ?_)
  · (try dsimp only)
    exact ⟨unhide HA, unhide HR⟩
  clear hKk Kk
  (try simp only [List.setIfInBounds_toArray, List.set_cons_zero, List.set_cons_succ])
  refine tkH 5 25 63 ?v5r6 rfl (by kernel_rfl) (by kernel_rfl) (fun _ _ _ h => h) (by assumption) (Or.inl ⟨by rfl, ?y5r6⟩) ?_
  case y5r6 => ((intro w hSw; (try dsimp only at hSw); go_simp) <;> with_reducible rfl)
  (try simp only [Act.put, List.setIfInBounds_toArray, List.set_cons_zero, List.set_cons_succ])
  refine tkH 6 19 127 ?v6r6 rfl (by kernel_rfl) (by kernel_rfl) (fun _ _ _ h => h) (by assumption) (Or.inl ⟨by rfl, ?y6r6⟩) ?_
  case y6r6 => ((intro w hSw; (try dsimp only at hSw); go_simp) <;> with_reducible rfl)
  (try simp only [Act.put, List.setIfInBounds_toArray, List.set_cons_zero, List.set_cons_succ])
  refine wpAnyH_done (by kernel_rfl) ?_ _
  clear hHeld
  obtain ⟨a0, a1, a2, a3, a4⟩ := unhide HA
  go_wp2_with fail
  clear a0 a1 a2 a3 a4
  have HB := hide (unhide HB).drew
  have HA := hide ((unhide HA).below ((Below.refl _ _).drew))
  have HR := hide (unhide HR).drew
  refine wp_region_held_drew (S := fun w' => (w'.cell? ⟨w1.heap.size, 0, none⟩ = some (.int .i64 e) ∧ w'.cell? ⟨w1.heap.size, 1, none⟩ = some (.int .i64 f) ∧ w'.cell? ⟨w1.heap.size, 2, none⟩ = some (.bool n) ∧ w'.cell? ⟨w1.heap.size, 3, none⟩ = some (.int .u64 xx) ∧ w'.cell? ⟨w1.heap.size, 4, none⟩ = some (.int .u64 yy)) ∧ Room W.heap.size 4 w') (by kernel_rfl) ?_ (fun hHeld => ?_)
  · (try dsimp only)
    exact ⟨unhide HA, unhide HR⟩
  refine lst0 9 (by kernel_rfl) ?_
  refine tkH 0 52 1 ?v0r11 rfl (by kernel_rfl) (by kernel_rfl) (fun _ _ _ h => h) (by assumption) (Or.inl ⟨by rfl, ?y0r11⟩) ?_
  case y0r11 => ((intro w hSw; (try dsimp only at hSw); go_simp) <;> with_reducible rfl)
  (try simp only [Act.put, List.setIfInBounds_toArray, List.set_cons_zero, List.set_cons_succ])
  refine tkH 1 53 3 ?v1r11 rfl (by kernel_rfl) (by kernel_rfl) (fun _ _ _ h => h) (by assumption) (Or.inl ⟨by rfl, ?y1r11⟩) ?_
  case y1r11 => ((intro w hSw; (try dsimp only at hSw); go_simp) <;> with_reducible rfl)
  (try simp only [Act.put, List.setIfInBounds_toArray, List.set_cons_zero, List.set_cons_succ])
  refine tkH 2 54 7 ?v2r11 rfl (by kernel_rfl) (by kernel_rfl) (fun _ _ _ h => h) (by assumption) (Or.inl ⟨by rfl, ?y2r11⟩) ?_
  case y2r11 => ((intro w hSw; (try dsimp only at hSw); go_simp) <;> with_reducible rfl)
  (try simp only [Act.put, List.setIfInBounds_toArray, List.set_cons_zero, List.set_cons_succ])
  refine tkH 3 55 15 ?v3r11 rfl (by kernel_rfl) (by kernel_rfl) (fun _ _ _ h => h) (by assumption) (Or.inl ⟨by rfl, ?y3r11⟩) ?_
  case y3r11 => ((intro w hSw; (try dsimp only at hSw); go_simp) <;> with_reducible rfl)
  (try simp only [Act.put, List.setIfInBounds_toArray, List.set_cons_zero, List.set_cons_succ])
  refine tkH 5 57 47 ?v5r11 rfl (by kernel_rfl) (by kernel_rfl) (fun _ _ _ h => h) (by assumption) (Or.inl ⟨by rfl, ?y5r11⟩) ?_
  case y5r11 => ((intro w hSw; (try dsimp only at hSw); go_simp) <;> with_reducible rfl)
  (try simp only [Act.put, List.setIfInBounds_toArray, List.set_cons_zero, List.set_cons_succ])
  refine tkH 6 58 111 ?v6r11 rfl (by kernel_rfl) (by kernel_rfl) (fun _ _ _ h => h) (by assumption) (Or.inl ⟨by rfl, ?y6r11⟩) ?_
  case y6r11 => ((intro w hSw; (try dsimp only at hSw); go_simp) <;> with_reducible rfl)
  (try simp only [Act.put, List.setIfInBounds_toArray, List.set_cons_zero, List.set_cons_succ])
  refine rdH 4 127 rfl (by kernel_rfl) (by kernel_rfl) (fun Kk hKk => ?_)
  go_simp
  refine (least_any hs _).mono ?_
  rintro _ w5 ⟨rfl, hbl⟩
  have HB := hide (bthen (unhide HB) hbl)
  have HA := hide ((unhide HA).below hbl)
  have HR := hide ((unhide HR).below hbl)
  clear hbl
  (try go_wp2_with fail)
  refine hKk.out _ _ ?_ (fun hHeld => ?_)
  · (try dsimp only)
    exact ⟨unhide HA, unhide HR⟩
  clear hKk Kk
  (try simp only [List.setIfInBounds_toArray, List.set_cons_zero, List.set_cons_succ])
  refine tkH 7 59 255 ?v7r11 rfl (by kernel_rfl) (by kernel_rfl) (fun _ _ _ h => h) (by assumption) (Or.inl ⟨by rfl, ?y7r11⟩) ?_
  case y7r11 => ((intro w hSw; (try dsimp only at hSw); go_simp) <;> with_reducible rfl)
  (try simp only [Act.put, List.setIfInBounds_toArray, List.set_cons_zero, List.set_cons_succ])
  refine rdH 8 511 rfl (by kernel_rfl) (by kernel_rfl) (fun Kk hKk => ?_)
  obtain ⟨⟨v0, c0⟩, f0⟩ := hHeld.2 0 (by omega)
  obtain ⟨⟨v1, c1⟩, f1⟩ := hHeld.2 1 (by omega)
  obtain ⟨⟨v2, c2⟩, f2⟩ := hHeld.2 2 (by omega)
  obtain ⟨⟨v3, c3⟩, f3⟩ := hHeld.2 3 (by omega)
  go_simp
  refine hKk.out _ _ ?_ (fun hHeld => ?_)
  · (try dsimp only)
    exact ⟨At5.set (At5.set (At5.set (At5.set (unhide HA) (by omega) _ _) (by omega) _ _) (by omega) _ _) (by omega) _ _, (((hHeld.2.set _ _).set _ _).set _ _).set _ _⟩
  clear hKk Kk
  (try simp only [List.setIfInBounds_toArray, List.set_cons_zero, List.set_cons_succ])
  refine wpAnyH_done (by kernel_rfl) ?_ _
  clear hHeld
  go_wp2_with fail
  exact bodyPost_ret (v := .agg #[.bool n, .int .i64 1, .int .i64 (1 - b - f), .int .u64 yy]) (by simp (maxDischargeDepth := 8) [results, Try.results16, go_sem, c0, c1, c2, c3]) rfl ⟨rfl, bset4 (unhide HB) _ _ _ _⟩

set_option maxRecDepth 100000 in
set_option maxHeartbeats 4000000 in
theorem open_nor {w e f P Q b : Int} (x xx yy : Int) (n : Bool) (hs : Sz e f P Q b) (W : World)
    (HT : Hid (∀ W, Calls Try.prog 47 #[.int .i64 w, .int .u64 x] W fun r W' => r = .returned (.agg #[.int .i64 e, .int .i64 f, .bool n, .int .u64 xx, .int .u64 yy]) ∧ Below W.heap.size W W')) (hf : (f != 0) = true) (h1 : (xx == Q - 1) = false) (h3 : (xx != 0) = true) (k1 : IntKind.i64.wrap xx = xx) (k2 : bits .or .u64 P yy = P + yy) (x0 : -5000 ≤ xx) (x1 : xx ≤ 5000) :
    Calls Try.prog 16 #[.int .i64 w, .int .u64 x] W fun r W' => r = .returned (.agg #[.bool n, .int .i64 1, .int .i64 (xx - b - f), .int .u64 (P + yy)]) ∧ Below W.heap.size W W' := by
  go_enter Try.func16, Try.ntmps16
  go_wp2_with fail
  refine (unhide HT _).mono ?_
  rintro _ w1 ⟨rfl, hbl⟩
  have HR := hide ((room4 hbl).alloc (.cells #[.int .i64 e, .int .i64 f, .bool n, .int .u64 xx, .int .u64 yy] 62))
  have HB := hide (balloc (bthen (below1 _ _) hbl) (.cells #[.int .i64 e, .int .i64 f, .bool n, .int .u64 xx, .int .u64 yy] 62))
  have HA : Hid (At5 w1.heap.size (.int .i64 e) (.int .i64 f) (.bool n) (.int .u64 xx) (.int .u64 yy) (w1.alloc (.cells #[.int .i64 e, .int .i64 f, .bool n, .int .u64 xx, .int .u64 yy] 62))) := by unfold Hid At5; simp [go_sem]
  have hz1 : W.heap.size < w1.heap.size := by have := hbl.size; simp at this; omega
  clear hbl HT
  go_wp2_with fail
  refine (known_any e f _).mono ?_
  rintro _ w2 ⟨rfl, hbl⟩
  have HB := hide (bthen (unhide HB) hbl)
  have HA := hide ((unhide HA).below hbl)
  have HR := hide ((unhide HR).below hbl)
  clear hbl
  obtain ⟨a0, a1, a2, a3, a4⟩ := unhide HA
  go_wp2_with fail
  refine (isNan_any n xx yy hs _).mono ?_
  rintro _ w3 ⟨rfl, hbl⟩
  clear a0 a1 a2 a3 a4
  have HB := hide (bthen (unhide HB) hbl)
  have HA := hide ((unhide HA).below hbl)
  have HR := hide ((unhide HR).below hbl)
  clear hbl
  rw [h1, Bool.false_and]
  go_wp2_with fail
  have HB := hide (unhide HB).drew
  have HA := hide ((unhide HA).below ((Below.refl _ _).drew))
  have HR := hide (unhide HR).drew
  refine wp_region_held_drew (S := fun w' => (w'.cell? ⟨w1.heap.size, 0, none⟩ = some (.int .i64 e) ∧ w'.cell? ⟨w1.heap.size, 1, none⟩ = some (.int .i64 f) ∧ w'.cell? ⟨w1.heap.size, 2, none⟩ = some (.bool n) ∧ w'.cell? ⟨w1.heap.size, 3, none⟩ = some (.int .u64 xx) ∧ w'.cell? ⟨w1.heap.size, 4, none⟩ = some (.int .u64 yy)) ∧ Room W.heap.size 4 w') (by kernel_rfl) ?_ (fun hHeld => ?_)
  · (try dsimp only)
    exact ⟨unhide HA, unhide HR⟩
  refine lst0 7 (by kernel_rfl) ?_
  refine tkH 0 20 1 ?v0r6 rfl (by kernel_rfl) (by kernel_rfl) (fun _ _ _ h => h) (by assumption) (Or.inl ⟨by rfl, ?y0r6⟩) ?_
  case y0r6 => ((intro w hSw; (try dsimp only at hSw); go_simp) <;> with_reducible rfl)
  (try simp only [Act.put, List.setIfInBounds_toArray, List.set_cons_zero, List.set_cons_succ])
  refine tkH 1 21 3 ?v1r6 rfl (by kernel_rfl) (by kernel_rfl) (fun _ _ _ h => h) (by assumption) (Or.inl ⟨by rfl, ?y1r6⟩) ?_
  case y1r6 => ((intro w hSw; (try dsimp only at hSw); go_simp) <;> with_reducible rfl)
  (try simp only [Act.put, List.setIfInBounds_toArray, List.set_cons_zero, List.set_cons_succ])
  refine tkH 2 22 7 ?v2r6 rfl (by kernel_rfl) (by kernel_rfl) (fun _ _ _ h => h) (by assumption) (Or.inl ⟨by rfl, ?y2r6⟩) ?_
  case y2r6 => ((intro w hSw; (try dsimp only at hSw); go_simp) <;> with_reducible rfl)
  (try simp only [Act.put, List.setIfInBounds_toArray, List.set_cons_zero, List.set_cons_succ])
  refine tkH 3 23 15 ?v3r6 rfl (by kernel_rfl) (by kernel_rfl) (fun _ _ _ h => h) (by assumption) (Or.inl ⟨by rfl, ?y3r6⟩) ?_
  case y3r6 => ((intro w hSw; (try dsimp only at hSw); go_simp) <;> with_reducible rfl)
  (try simp only [Act.put, List.setIfInBounds_toArray, List.set_cons_zero, List.set_cons_succ])
  refine rdH 4 31 rfl (by kernel_rfl) (by kernel_rfl) (fun Kk hKk => ?_)
  go_simp
  refine (last_any hs _).mono ?_
  rintro _ w4 ⟨rfl, hbl⟩
  have HB := hide (bthen (unhide HB) hbl)
  have HA := hide ((unhide HA).below hbl)
  have HR := hide ((unhide HR).below hbl)
  clear hbl
  (try go_wp2_with fail)
  refine hKk.out _ _ ?_ (fun hHeld => ?_)
  · (try dsimp only)
    exact ⟨unhide HA, unhide HR⟩
  clear hKk Kk
  (try simp only [List.setIfInBounds_toArray, List.set_cons_zero, List.set_cons_succ])
  refine tkH 5 25 63 ?v5r6 rfl (by kernel_rfl) (by kernel_rfl) (fun _ _ _ h => h) (by assumption) (Or.inl ⟨by rfl, ?y5r6⟩) ?_
  case y5r6 => ((intro w hSw; (try dsimp only at hSw); go_simp) <;> with_reducible rfl)
  (try simp only [Act.put, List.setIfInBounds_toArray, List.set_cons_zero, List.set_cons_succ])
  refine tkH 6 19 127 ?v6r6 rfl (by kernel_rfl) (by kernel_rfl) (fun _ _ _ h => h) (by assumption) (Or.inl ⟨by rfl, ?y6r6⟩) ?_
  case y6r6 => ((intro w hSw; (try dsimp only at hSw); go_simp) <;> with_reducible rfl)
  (try simp only [Act.put, List.setIfInBounds_toArray, List.set_cons_zero, List.set_cons_succ])
  refine wpAnyH_done (by kernel_rfl) ?_ _
  clear hHeld
  obtain ⟨a0, a1, a2, a3, a4⟩ := unhide HA
  go_wp2_with fail
  clear a0 a1 a2 a3 a4
  have HB := hide (unhide HB).drew
  have HA := hide ((unhide HA).below ((Below.refl _ _).drew))
  have HR := hide (unhide HR).drew
  refine wp_region_held_drew (S := fun w' => (w'.cell? ⟨w1.heap.size, 0, none⟩ = some (.int .i64 e) ∧ w'.cell? ⟨w1.heap.size, 1, none⟩ = some (.int .i64 f) ∧ w'.cell? ⟨w1.heap.size, 2, none⟩ = some (.bool n) ∧ w'.cell? ⟨w1.heap.size, 3, none⟩ = some (.int .u64 xx) ∧ w'.cell? ⟨w1.heap.size, 4, none⟩ = some (.int .u64 yy)) ∧ Room W.heap.size 4 w') (by kernel_rfl) ?_ (fun hHeld => ?_)
  · (try dsimp only)
    exact ⟨unhide HA, unhide HR⟩
  refine lst0 16 (by kernel_rfl) ?_
  refine tkH 0 33 1 ?v0r9 rfl (by kernel_rfl) (by kernel_rfl) (fun _ _ _ h => h) (by assumption) (Or.inl ⟨by rfl, ?y0r9⟩) ?_
  case y0r9 => ((intro w hSw; (try dsimp only at hSw); go_simp) <;> with_reducible rfl)
  (try simp only [Act.put, List.setIfInBounds_toArray, List.set_cons_zero, List.set_cons_succ])
  refine tkH 1 34 3 ?v1r9 rfl (by kernel_rfl) (by kernel_rfl) (fun _ _ _ h => h) (by assumption) (Or.inl ⟨by rfl, ?y1r9⟩) ?_
  case y1r9 => ((intro w hSw; (try dsimp only at hSw); go_simp) <;> with_reducible rfl)
  (try simp only [Act.put, List.setIfInBounds_toArray, List.set_cons_zero, List.set_cons_succ])
  refine tkH 2 35 7 ?v2r9 rfl (by kernel_rfl) (by kernel_rfl) (fun _ _ _ h => h) (by assumption) (Or.inl ⟨by rfl, ?y2r9⟩) ?_
  case y2r9 => ((intro w hSw; (try dsimp only at hSw); go_simp) <;> with_reducible rfl)
  (try simp only [Act.put, List.setIfInBounds_toArray, List.set_cons_zero, List.set_cons_succ])
  refine tkH 3 36 15 ?v3r9 rfl (by kernel_rfl) (by kernel_rfl) (fun _ _ _ h => h) (by assumption) (Or.inl ⟨by rfl, ?y3r9⟩) ?_
  case y3r9 => ((intro w hSw; (try dsimp only at hSw); go_simp) <;> with_reducible rfl)
  (try simp only [Act.put, List.setIfInBounds_toArray, List.set_cons_zero, List.set_cons_succ])
  refine tkH 4 37 31 ?v4r9 rfl (by kernel_rfl) (by kernel_rfl) (fun _ _ _ h => h) (by assumption) (Or.inl ⟨by rfl, ?y4r9⟩) ?_
  case y4r9 => ((intro w hSw; (try dsimp only at hSw); go_simp) <;> with_reducible rfl)
  (try simp only [Act.put, List.setIfInBounds_toArray, List.set_cons_zero, List.set_cons_succ])
  refine tkH 5 38 63 ?v5r9 rfl (by kernel_rfl) (by kernel_rfl) (fun _ _ _ h => h) (by assumption) (Or.inl ⟨by rfl, ?y5r9⟩) ?_
  case y5r9 => ((intro w hSw; (try dsimp only at hSw); go_simp) <;> with_reducible rfl)
  (try simp only [Act.put, List.setIfInBounds_toArray, List.set_cons_zero, List.set_cons_succ])
  refine tkH 6 39 127 ?v6r9 rfl (by kernel_rfl) (by kernel_rfl) (fun _ _ _ h => h) (by assumption) (Or.inl ⟨by rfl, ?y6r9⟩) ?_
  case y6r9 => ((intro w hSw; (try dsimp only at hSw); go_simp) <;> with_reducible rfl)
  (try simp only [Act.put, List.setIfInBounds_toArray, List.set_cons_zero, List.set_cons_succ])
  refine tkH 8 41 383 ?v8r9 rfl (by kernel_rfl) (by kernel_rfl) (fun _ _ _ h => h) (by assumption) (Or.inl ⟨by rfl, ?y8r9⟩) ?_
  case y8r9 => ((intro w hSw; (try dsimp only at hSw); go_simp) <;> with_reducible rfl)
  (try simp only [Act.put, List.setIfInBounds_toArray, List.set_cons_zero, List.set_cons_succ])
  refine tkH 9 42 895 ?v9r9 rfl (by kernel_rfl) (by kernel_rfl) (fun _ _ _ h => h) (by assumption) (Or.inl ⟨by rfl, ?y9r9⟩) ?_
  case y9r9 => ((intro w hSw; (try dsimp only at hSw); go_simp) <;> with_reducible rfl)
  (try simp only [Act.put, List.setIfInBounds_toArray, List.set_cons_zero, List.set_cons_succ])
  refine tkH 11 44 2943 ?v11r9 rfl (by kernel_rfl) (by kernel_rfl) (fun _ _ _ h => h) (by assumption) (Or.inl ⟨by rfl, ?y11r9⟩) ?_
  case y11r9 => ((intro w hSw; (try dsimp only at hSw); go_simp) <;> with_reducible rfl)
  (try simp only [Act.put, List.setIfInBounds_toArray, List.set_cons_zero, List.set_cons_succ])
  refine tkH 12 45 7039 ?v12r9 rfl (by kernel_rfl) (by kernel_rfl) (fun _ _ _ h => h) (by assumption) (Or.inl ⟨by rfl, ?y12r9⟩) ?_
  case y12r9 => ((intro w hSw; (try dsimp only at hSw); go_simp) <;> with_reducible rfl)
  (try simp only [Act.put, List.setIfInBounds_toArray, List.set_cons_zero, List.set_cons_succ])
  refine rdH 7 7167 rfl (by kernel_rfl) (by kernel_rfl) (fun Kk hKk => ?_)
  go_simp
  refine (power_any xx hs _ x0 x1).mono ?_
  rintro _ w5 ⟨rfl, hbl⟩
  have HB := hide (bthen (unhide HB) hbl)
  have HA := hide ((unhide HA).below hbl)
  have HR := hide ((unhide HR).below hbl)
  clear hbl
  (try go_wp2_with fail)
  refine hKk.out _ _ ?_ (fun hHeld => ?_)
  · (try dsimp only)
    exact ⟨unhide HA, unhide HR⟩
  clear hKk Kk
  (try simp only [List.setIfInBounds_toArray, List.set_cons_zero, List.set_cons_succ])
  refine rdH 10 8191 rfl (by kernel_rfl) (by kernel_rfl) (fun Kk hKk => ?_)
  go_simp
  refine (one_any hs _).mono ?_
  rintro _ w6 ⟨rfl, hbl⟩
  have HB := hide (bthen (unhide HB) hbl)
  have HA := hide ((unhide HA).below hbl)
  have HR := hide ((unhide HR).below hbl)
  clear hbl
  (try go_wp2_with fail)
  refine hKk.out _ _ ?_ (fun hHeld => ?_)
  · (try dsimp only)
    exact ⟨unhide HA, unhide HR⟩
  clear hKk Kk
  (try simp only [List.setIfInBounds_toArray, List.set_cons_zero, List.set_cons_succ])
  refine tkH 13 46 16383 ?v13r9 rfl (by kernel_rfl) (by kernel_rfl) (fun _ _ _ h => h) (by assumption) (Or.inl ⟨by rfl, ?y13r9⟩) ?_
  case y13r9 => ((intro w hSw; (try dsimp only at hSw); go_simp) <;> with_reducible rfl)
  (try simp only [Act.put, List.setIfInBounds_toArray, List.set_cons_zero, List.set_cons_succ])
  refine tkH 14 47 32767 ?v14r9 rfl (by kernel_rfl) (by kernel_rfl) (fun _ _ _ h => h) (by assumption) (Or.inl ⟨by rfl, ?y14r9⟩) ?_
  case y14r9 => ((intro w hSw; (try dsimp only at hSw); go_simp) <;> with_reducible rfl)
  (try simp only [Act.put, List.setIfInBounds_toArray, List.set_cons_zero, List.set_cons_succ])
  refine rdH 15 65535 rfl (by kernel_rfl) (by kernel_rfl) (fun Kk hKk => ?_)
  obtain ⟨⟨v0, c0⟩, f0⟩ := hHeld.2 0 (by omega)
  obtain ⟨⟨v1, c1⟩, f1⟩ := hHeld.2 1 (by omega)
  obtain ⟨⟨v2, c2⟩, f2⟩ := hHeld.2 2 (by omega)
  obtain ⟨⟨v3, c3⟩, f3⟩ := hHeld.2 3 (by omega)
  go_simp
  refine hKk.out _ _ ?_ (fun hHeld => ?_)
  · (try dsimp only)
    exact ⟨At5.set (At5.set (At5.set (At5.set (unhide HA) (by omega) _ _) (by omega) _ _) (by omega) _ _) (by omega) _ _, (((hHeld.2.set _ _).set _ _).set _ _).set _ _⟩
  clear hKk Kk
  (try simp only [List.setIfInBounds_toArray, List.set_cons_zero, List.set_cons_succ])
  refine wpAnyH_done (by kernel_rfl) ?_ _
  clear hHeld
  go_wp2_with fail
  exact bodyPost_ret (v := .agg #[.bool n, .int .i64 1, .int .i64 (xx - b - f), .int .u64 (P + yy)]) (by simp (maxDischargeDepth := 8) [results, Try.results16, go_sem, c0, c1, c2, c3]) rfl ⟨rfl, bset4 (unhide HB) _ _ _ _⟩

/-- What a float of these fields is taken apart into. -/
def Opened (f P Q b : Int) (n : Bool) (x y : Int) (N : Bool) (K X S : Int) : Prop :=
  (f = 0 ∧ N = false ∧ K = 0 ∧ X = 0 ∧ S = 0) ∨
  (f ≠ 0 ∧ x = Q - 1 ∧ y ≠ 0 ∧ N = false ∧ K = 3 ∧ X = 0 ∧ S = 0) ∨
  (f ≠ 0 ∧ x = Q - 1 ∧ y = 0 ∧ N = n ∧ K = 2 ∧ X = 0 ∧ S = 0) ∨
  (f ≠ 0 ∧ x ≠ Q - 1 ∧ x ≠ 0 ∧ N = n ∧ K = 1 ∧ X = x - b - f ∧ S = P + y) ∨
  (f ≠ 0 ∧ x ≠ Q - 1 ∧ x = 0 ∧ y ≠ 0 ∧ N = n ∧ K = 1 ∧ X = 1 - b - f ∧ S = y) ∨
  (f ≠ 0 ∧ x ≠ Q - 1 ∧ x = 0 ∧ y = 0 ∧ N = n ∧ K = 0 ∧ X = 0 ∧ S = 0)
theorem ne_t {a b : Int} (h : a ≠ b) : (a != b) = true := by simp [h]
theorem ne_f {a b : Int} (h : a = b) : (a != b) = false := by simp [h]
theorem eq_t {a b : Int} (h : a = b) : (a == b) = true := by simp [h]
theorem eq_f {a b : Int} (h : a ≠ b) : (a == b) = false := by simp [h]

theorem open_any {w e f P Q b : Int} (x : Int) {N : Bool} {K X S : Int} (h : Wd w e f P Q b) (W : World) (h0 : 0 ≤ x) (h1 : x < 18446744073709551616)
    (ho : Opened f P Q b (sg P Q x) (x / P % Q) (x % P) N K X S) :
    Calls Try.prog 16 #[.int .i64 w, .int .u64 x] W fun r W' => r = .returned (.agg #[.bool N, .int .i64 K, .int .i64 X, .int .u64 S]) ∧ Below W.heap.size W W' := by
  have HT := hide (fun W => take_any x h W h0 h1)
  obtain ⟨p1, p2, q1, q2⟩ := h.sz.pos
  obtain ⟨u, v⟩ := exp_in (x / P) q1
  obtain ⟨u', v'⟩ := exp_in x p1
  rcases ho with ⟨a, rfl, rfl, rfl, rfl⟩ | ⟨a, c, d, rfl, rfl, rfl, rfl⟩ | ⟨a, c, d, rfl, rfl, rfl, rfl⟩ | ⟨a, c, d, rfl, rfl, rfl, rfl⟩ | ⟨a, c, d, g, rfl, rfl, rfl, rfl⟩ | ⟨a, c, d, g, rfl, rfl, rfl, rfl⟩
  · exact open_no x _ _ _ h.sz W HT (ne_f a)
  · exact open_nan x _ _ _ h.sz W HT (ne_t a) (eq_t c) (ne_t d)
  · exact open_inf x _ _ _ h.sz W HT (ne_t a) (eq_t c) (ne_f d)
  · refine open_nor x _ _ _ h.sz W HT (ne_t a) (eq_f c) (ne_t d) (i64_id (by omega) (by omega)) ?_ (by omega) (by omega)
    rcases h.sz with ⟨_, rfl, rfl, rfl, _⟩ | ⟨_, rfl, rfl, rfl, _⟩ | ⟨_, rfl, rfl, rfl, _⟩
    · exact or_sum 23 _ _ (by omega) (by omega) (by decide) (by omega) (by omega) (by omega)
    · exact or_sum 52 _ _ (by omega) (by omega) (by decide) (by omega) (by omega) (by omega)
    · exact absurd rfl a
  · exact open_sub x _ _ _ h.sz W HT (ne_t a) (eq_f c) (ne_f d) (ne_t g)
  · exact open_zer x _ _ _ h.sz W HT (ne_t a) (eq_f c) (ne_f d) (ne_f g)

def At4 (b : Nat) (x y z u : Value) (w : World) : Prop := w.cell? ⟨b, 0, none⟩ = some x ∧ w.cell? ⟨b, 1, none⟩ = some y ∧ w.cell? ⟨b, 2, none⟩ = some z ∧ w.cell? ⟨b, 3, none⟩ = some u
theorem At4.below {b : Nat} {x y z u : Value} {w w' : World} (h : At4 b x y z u w) (hb : Below w.heap.size w w') : At4 b x y z u w' :=
  have hz := lt_of_cell h.1
  ⟨keep1 hb hz h.1, keep1 hb hz h.2.1, keep1 hb hz h.2.2.1, keep1 hb hz h.2.2.2⟩
theorem at4_new (w : World) (x y z u : Value) (t : TypeId) : At4 w.heap.size x y z u (w.alloc (.cells #[x, y, z, u] t)) := by unfold At4; simp [go_sem]

end Go.Proofs.Ytepdmpcgkecjiaa
