/- Ends, Ref. -/
import Derived.Test.YtahdcbjfabccpaaT01
import Derived.Test.YtahdcbjfabccpaaT07
namespace Go.Proofs.Ytahdcbjfabccpaa
open Go.RowKit

/-- A float of its fields; 0 of what is no width. -/
def put (f P Q : Int) (n : Bool) (x y : Int) : Int := if f = 0 then 0 else x * P + y + (if n then P * Q else 0)
/-- The sign's bit of a float. -/
def sg (P Q x : Int) : Bool := x / (P * Q) % 2 == 1

theorem take_any {w e f P Q b : Int} (x : Int) (h : Wd w e f P Q b) (W : World) (h0 : 0 ≤ x) (h1 : x < 18446744073709551616) :
    Calls Try.prog 31 #[.int .i64 w, .int .u64 x] W fun r W' => r = .returned (.agg #[.int .i64 e, .int .i64 f, .bool (sg P Q x), .int .u64 (x / P % Q), .int .u64 (x % P)]) ∧ Below W.heap.size W W' := by
  unfold sg
  rcases h with ⟨rfl, rfl, rfl, rfl, rfl, rfl⟩ | ⟨rfl, rfl, rfl, rfl, rfl, rfl⟩ | ⟨hw, rfl, rfl, rfl, rfl, rfl⟩
  · exact take_32 x W h0 h1
  · exact take_64 x W h0 h1
  · rw [Int.emod_one, Int.emod_one, Int.mul_one, Int.ediv_one]
    exact take_no w x W h0 h1 hw

theorem bits_any {e f P Q b : Int} (n : Bool) (x y : Int) (h : Sz e f P Q b) (W : World) (x0 : 0 ≤ x) (x1 : x < Q) (y0 : 0 ≤ y) (y1 : y < P) :
    Calls Try.prog 48 #[.agg #[.int .i64 e, .int .i64 f, .bool n, .int .u64 x, .int .u64 y]] W fun r W' => r = .returned (.int .u64 (put f P Q n x y)) ∧ Below W.heap.size W W' := by
  unfold put
  rcases h with ⟨rfl, rfl, rfl, rfl, rfl⟩ | ⟨rfl, rfl, rfl, rfl, rfl⟩ | ⟨rfl, rfl, rfl, rfl, rfl⟩
  · cases n
    · simpa using bits_32p x y W x0 x1 y0 y1
    · simpa using bits_32m x y W x0 x1 y0 y1
  · cases n
    · simpa using bits_64p x y W x0 x1 y0 y1
    · simpa using bits_64m x y W x0 x1 y0 y1
  · simpa using bits_no n x y W

theorem Sz.pos {e f P Q b : Int} (h : Sz e f P Q b) : 1 ≤ P ∧ P ≤ 4503599627370496 ∧ 1 ≤ Q ∧ Q ≤ 2048 := by rcases h with h | h | h <;> omega
theorem exp_in {Q : Int} (z : Int) (h : 1 ≤ Q) : 0 ≤ z % Q ∧ z % Q < Q := ⟨Int.emod_nonneg _ (by omega), Int.emod_lt_of_pos _ (by omega)⟩

/-- The lowest bits of a float's width. -/
def cutN (f P Q x : Int) : Int := if f = 0 then 0 else x % (2 * (P * Q))
set_option maxHeartbeats 1000000 in
theorem zero_any {w e f P Q b : Int} (n : Bool) (h : Wd w e f P Q b) (W : World) :
    Calls Try.prog 26 #[.int .i64 w, .bool n] W fun r W' => r = .returned (.int .u64 (put f P Q n 0 0)) ∧ Below W.heap.size W W' := by
  obtain ⟨p1, p2, p3, p4⟩ := h.sz.pos
  have HC := hide (fun W => bits_any n 0 0 h.sz W (by omega) (by omega) (by omega) (by omega))
  go_enter Try.func26, Try.ntmps26
  go_wp2_with fail
  refine (sizesOf_any h _).mono ?_
  rintro _ w1 ⟨rfl, hb1⟩
  go_wp2_with fail
  refine (unhide HC _).mono ?_
  rintro _ w2 ⟨rfl, hb2⟩
  go_wp2_with fail
  go_ret
  exact ⟨rfl, bthen hb1 hb2⟩

theorem and_not1 {e f P Q b : Int} (h : Sz e f P Q b) : ∃ M, bits .andNot .u64 (Q - 1) 1 = M ∧ 0 ≤ M ∧ M < Q ∧ (f ≠ 0 → M = Q - 2) := by
  rcases h with ⟨rfl, rfl, rfl, rfl, rfl⟩ | ⟨rfl, rfl, rfl, rfl, rfl⟩ | ⟨rfl, rfl, rfl, rfl, rfl⟩
  · exact ⟨254, by decide +kernel, by omega, by omega, by omega⟩
  · exact ⟨2046, by decide +kernel, by omega, by omega, by omega⟩
  · exact ⟨0, by decide +kernel, by omega, by omega, by omega⟩

set_option maxHeartbeats 2000000 in
theorem nan_any {w e f P Q b : Int} (h : Wd w e f P Q b) (W : World) :
    Calls Try.prog 30 #[.int .i64 w] W fun r W' => r = .returned (.int .u64 (put f P Q false (Q - 1) (P / 2))) ∧ Below W.heap.size W W' := by
  obtain ⟨p1, p2, p3, p4⟩ := h.sz.pos
  have hs := h.sz
  have HC := hide (fun W => bits_any false (Q - 1) (P / 2) h.sz W (by omega) (by omega) (by omega) (by omega))
  clear p1 p2 p3 p4
  go_enter Try.func30, Try.ntmps30
  go_wp2_with fail
  refine (sizesOf_any h _).mono ?_
  rintro _ w1 ⟨rfl, hb1⟩
  have HB := hide (balloc hb1 (.cells #[.int .i64 e, .int .i64 f] 49)).drew
  go_wp2_with fail
  refine wp_region_held_drew (S := fun w' => w'.cell? ⟨w1.heap.size, 0, none⟩ = some (.int .i64 e) ∧ w'.cell? ⟨w1.heap.size, 1, none⟩ = some (.int .i64 f)) (by kernel_rfl) ?_ (fun hHeld => ?_)
  · (try dsimp only)
    simp [go_sem]
  refine lst0 9 (by kernel_rfl) ?_
  refine tkA 0 6 1 ?_
  refine tkA 1 7 3 ?_
  refine tkA 3 9 11 ?_
  refine rdA 2 15 (fun Kk hKk => ?_)
  go_simp
  refine (last_any hs _).mono ?_
  rintro _ w2 ⟨rfl, hbl⟩
  have HB := hide (bthen (unhide HB) hbl)
  (try go_wp2_with fail)
  refine hKk.out _ _ ?_ (fun hHeld => ?_)
  · (try dsimp only)
    exact At2.below hHeld hbl
  clear hKk Kk
  (try simp only [List.setIfInBounds_toArray, List.set_cons_zero, List.set_cons_succ])
  refine rdA 4 31 (fun Kk hKk => ?_)
  go_simp
  refine (one_any hs _).mono ?_
  rintro _ w3 ⟨rfl, hbl⟩
  have HB := hide (bthen (unhide HB) hbl)
  (try go_wp2_with fail)
  refine hKk.out _ _ ?_ (fun hHeld => ?_)
  · (try dsimp only)
    exact At2.below hHeld hbl
  clear hKk Kk
  (try simp only [List.setIfInBounds_toArray, List.set_cons_zero, List.set_cons_succ])
  refine tkA 5 11 63 ?_
  refine tkA 6 12 127 ?_
  refine rdA 7 255 (fun Kk hKk => ?_)
  go_simp
  refine (unhide HC _).mono ?_
  rintro _ w4 ⟨rfl, hbl⟩
  have HB := hide (bthen (unhide HB) hbl)
  (try go_wp2_with fail)
  refine hKk.out _ _ ?_ (fun hHeld => ?_)
  · (try dsimp only)
    exact At2.below hHeld hbl
  clear hKk Kk
  (try simp only [List.setIfInBounds_toArray, List.set_cons_zero, List.set_cons_succ])
  refine tkA 8 2 511 ?_
  refine wpAnyH_done (by kernel_rfl) ?_ _
  go_wp2_with fail
  go_ret
  exact ⟨rfl, unhide HB⟩

set_option maxHeartbeats 2000000 in
theorem inf_any {w e f P Q b : Int} (n : Bool) (h : Wd w e f P Q b) (W : World) :
    Calls Try.prog 29 #[.int .i64 w, .bool n] W fun r W' => r = .returned (.int .u64 (put f P Q n (Q - 1) 0)) ∧ Below W.heap.size W W' := by
  obtain ⟨p1, p2, p3, p4⟩ := h.sz.pos
  have hs := h.sz
  have HC := hide (fun W => bits_any n (Q - 1) 0 h.sz W (by omega) (by omega) (by omega) (by omega))
  clear p1 p2 p3 p4
  go_enter Try.func29, Try.ntmps29
  go_wp2_with fail
  refine (sizesOf_any h _).mono ?_
  rintro _ w1 ⟨rfl, hb1⟩
  have HB := hide (balloc hb1 (.cells #[.int .i64 e, .int .i64 f] 49)).drew
  go_wp2_with fail
  refine wp_region_held_drew (S := fun w' => w'.cell? ⟨w1.heap.size, 0, none⟩ = some (.int .i64 e) ∧ w'.cell? ⟨w1.heap.size, 1, none⟩ = some (.int .i64 f)) (by kernel_rfl) ?_ (fun hHeld => ?_)
  · (try dsimp only)
    simp [go_sem]
  refine lst0 7 (by kernel_rfl) ?_
  refine tkA 0 8 1 ?_
  refine tkA 1 9 3 ?_
  refine tkA 2 10 7 ?_
  refine rdA 3 15 (fun Kk hKk => ?_)
  go_simp
  refine (last_any hs _).mono ?_
  rintro _ w2 ⟨rfl, hbl⟩
  have HB := hide (bthen (unhide HB) hbl)
  (try go_wp2_with fail)
  refine hKk.out _ _ ?_ (fun hHeld => ?_)
  · (try dsimp only)
    exact At2.below hHeld hbl
  clear hKk Kk
  (try simp only [List.setIfInBounds_toArray, List.set_cons_zero, List.set_cons_succ])
  refine tkA 4 12 31 ?_
  refine rdA 5 63 (fun Kk hKk => ?_)
  go_simp
  refine (unhide HC _).mono ?_
  rintro _ w4 ⟨rfl, hbl⟩
  have HB := hide (bthen (unhide HB) hbl)
  (try go_wp2_with fail)
  refine hKk.out _ _ ?_ (fun hHeld => ?_)
  · (try dsimp only)
    exact At2.below hHeld hbl
  clear hKk Kk
  (try simp only [List.setIfInBounds_toArray, List.set_cons_zero, List.set_cons_succ])
  refine tkA 6 4 127 ?_
  refine wpAnyH_done (by kernel_rfl) ?_ _
  go_wp2_with fail
  go_ret
  exact ⟨rfl, unhide HB⟩

set_option maxHeartbeats 2000000 in
theorem most_w {w e f P Q b : Int} (n : Bool) (h : Wd w e f P Q b) (W : World) :
    Calls Try.prog 59 #[.int .i64 w, .bool n] W fun r W' => r = .returned (.int .u64 (put f P Q n (Q - 2) (P - 1))) ∧ Below W.heap.size W W' := by
  obtain ⟨p1, p2, p3, p4⟩ := h.sz.pos
  have hs := h.sz
  obtain ⟨M, hM, m1, m2, m3⟩ := and_not1 hs
  have k1 : IntKind.u64.wrap (P - 1) = P - 1 := by rw [IntKind.wrap_u64]; omega
  have HC := hide (fun W => bits_any n M (P - 1) h.sz W (by omega) (by omega) (by omega) (by omega))
  have HE : Hid (put f P Q n M (P - 1) = put f P Q n (Q - 2) (P - 1)) := by
    by_cases hf : f = 0
    · simp [Hid, put, hf]
    · rw [m3 hf]; exact rfl
  clear p1 p2 p3 p4 m1 m2 m3
  go_enter Try.func59, Try.ntmps59
  go_wp2_with fail
  refine (sizesOf_any h _).mono ?_
  rintro _ w1 ⟨rfl, hb1⟩
  have HB := hide (balloc hb1 (.cells #[.int .i64 e, .int .i64 f] 49)).drew
  go_wp2_with fail
  refine wp_region_held_drew (S := fun w' => w'.cell? ⟨w1.heap.size, 0, none⟩ = some (.int .i64 e) ∧ w'.cell? ⟨w1.heap.size, 1, none⟩ = some (.int .i64 f)) (by kernel_rfl) ?_ (fun hHeld => ?_)
  · (try dsimp only)
    simp [go_sem]
  refine lst0 11 (by kernel_rfl) ?_
  refine tkA 0 8 1 ?_
  refine tkA 1 9 3 ?_
  refine tkA 2 10 7 ?_
  refine tkA 5 13 39 ?_
  refine rdA 3 47 (fun Kk hKk => ?_)
  go_simp
  refine (last_any hs _).mono ?_
  rintro _ w2 ⟨rfl, hbl⟩
  have HB := hide (bthen (unhide HB) hbl)
  (try go_wp2_with fail)
  refine hKk.out _ _ ?_ (fun hHeld => ?_)
  · (try dsimp only)
    exact At2.below hHeld hbl
  clear hKk Kk
  (try simp only [List.setIfInBounds_toArray, List.set_cons_zero, List.set_cons_succ])
  refine tkA 4 12 63 ?_
  refine rdA 6 127 (fun Kk hKk => ?_)
  go_simp
  refine (one_any hs _).mono ?_
  rintro _ w3 ⟨rfl, hbl⟩
  have HB := hide (bthen (unhide HB) hbl)
  (try go_wp2_with fail)
  refine hKk.out _ _ ?_ (fun hHeld => ?_)
  · (try dsimp only)
    exact At2.below hHeld hbl
  clear hKk Kk
  (try simp only [List.setIfInBounds_toArray, List.set_cons_zero, List.set_cons_succ])
  refine tkA 7 15 255 ?_
  refine tkA 8 16 511 ?_
  refine rdA 9 1023 (fun Kk hKk => ?_)
  go_simp
  refine (unhide HC _).mono ?_
  rintro _ w4 ⟨rfl, hbl⟩
  have HB := hide (bthen (unhide HB) hbl)
  (try go_wp2_with fail)
  refine hKk.out _ _ ?_ (fun hHeld => ?_)
  · (try dsimp only)
    exact At2.below hHeld hbl
  clear hKk Kk
  (try simp only [List.setIfInBounds_toArray, List.set_cons_zero, List.set_cons_succ])
  refine tkA 10 4 2047 ?_
  refine wpAnyH_done (by kernel_rfl) ?_ _
  go_wp2_with fail
  go_ret
  exact ⟨ret1 (unhide HE), unhide HB⟩

set_option maxHeartbeats 1000000 in
theorem fields_any {w e f P Q b : Int} (h : Wd w e f P Q b) (W : World) :
    Calls Try.prog 58 #[.int .i64 w] W fun r W' => r = .returned (.tuple #[.int .i64 e, .int .i64 f]) ∧ Below W.heap.size W W' := by
  go_enter Try.func58, Try.ntmps58
  go_wp2_with fail
  refine (sizesOf_any h _).mono ?_
  rintro _ w1 ⟨rfl, hb1⟩
  have HB := hide (balloc hb1 (.cells #[.int .i64 e, .int .i64 f] 49)).drew
  go_wp2_with fail
  refine wp_region_held_drew (S := fun w' => w'.cell? ⟨w1.heap.size, 0, none⟩ = some (.int .i64 e) ∧ w'.cell? ⟨w1.heap.size, 1, none⟩ = some (.int .i64 f)) (by kernel_rfl) ?_ (fun hHeld => ?_)
  · (try dsimp only)
    simp [go_sem]
  refine lst0 6 (by kernel_rfl) ?_
  refine tkA 0 7 1 ?_
  refine tkA 1 8 3 ?_
  refine tkA 2 9 7 ?_
  refine tkA 3 10 15 ?_
  refine tkA 4 2 31 ?_
  refine tkA 5 3 63 ?_
  refine wpAnyH_done (by kernel_rfl) ?_ _
  go_wp2_with fail
  go_ret2
  exact ⟨rfl, unhide HB⟩

end Go.Proofs.Ytahdcbjfabccpaa
namespace Go.Proofs.Ytahdcbjfabccpaa
open Go.RowKit

/-- A width that is one. -/
def Kd (w e f P Q b : Int) : Prop := (w = 32 ∧ e = 8 ∧ f = 23 ∧ P = 8388608 ∧ Q = 256 ∧ b = 127) ∨ (w = 64 ∧ e = 11 ∧ f = 52 ∧ P = 4503599627370496 ∧ Q = 2048 ∧ b = 1023)
theorem Kd.wd {w e f P Q b : Int} (h : Kd w e f P Q b) : Wd w e f P Q b := by
  rcases h with h | h
  · exact Or.inl h
  · exact Or.inr (Or.inl h)
theorem Kd.f0 {w e f P Q b : Int} (h : Kd w e f P Q b) : f ≠ 0 := by rcases h with h | h <;> omega

set_option maxHeartbeats 400000 in
theorem refE_any {w e f P Q b : Int} (h : Kd w e f P Q b) (W : World) :
    Calls Try.prog 44 #[.int .i64 w] W fun r W' => r = .returned (.int .i64 e) ∧ Below W.heap.size W W' := by
  rcases h with ⟨rfl, rfl, rfl, rfl, rfl, rfl⟩ | ⟨rfl, rfl, rfl, rfl, rfl, rfl⟩
  all_goals
    go_enter Try.func44, Try.ntmps44
    go_wp2
    go_ret
    exact ⟨rfl, Below.refl _ _⟩

set_option maxHeartbeats 400000 in
theorem refB_any {w e f P Q b : Int} (h : Kd w e f P Q b) (W : World) :
    Calls Try.prog 22 #[.int .i64 w] W fun r W' => r = .returned (.int .i64 b) ∧ Below W.heap.size W W' := by
  rcases h with ⟨rfl, rfl, rfl, rfl, rfl, rfl⟩ | ⟨rfl, rfl, rfl, rfl, rfl, rfl⟩
  all_goals
    go_enter Try.func22, Try.ntmps22
    go_wp2
    go_ret
    exact ⟨rfl, Below.refl _ _⟩

set_option maxHeartbeats 400000 in
theorem refF_any {w e f P Q b : Int} (h : Kd w e f P Q b) (W : World) :
    Calls Try.prog 23 #[.int .i64 w] W fun r W' => r = .returned (.int .i64 f) ∧ Below W.heap.size W W' := by
  have HE := hide (fun W => refE_any h W)
  rcases h with ⟨rfl, rfl, rfl, rfl, rfl, rfl⟩ | ⟨rfl, rfl, rfl, rfl, rfl, rfl⟩
  all_goals
    go_enter Try.func23, Try.ntmps23
    go_wp2_with fail
    refine (unhide HE _).mono ?_
    rintro _ w1 ⟨rfl, hb1⟩
    go_wp2
    go_ret
    exact ⟨rfl, hb1⟩

theorem pow_le63 {k : Nat} (h : k ≤ 63) : ((2 ^ k : Nat) : Int) ≤ 9223372036854775808 := by
  have : 2 ^ k ≤ 2 ^ 63 := Nat.pow_le_pow_right (by omega) h
  omega
set_option maxHeartbeats 1000000 in
theorem two_any (n T : Int) (W : World) (h0 : 0 ≤ n) (h1 : n ≤ 63) (hT : ((2 ^ n.toNat : Nat) : Int) = T) :
    Calls Try.prog 24 #[.int .i64 n] W fun r W' => r = .returned (.int .u64 T) ∧ Below W.heap.size W W' := by
  have HT := hide hT
  clear hT
  go_enter Try.func24, Try.ntmps24
  go_wp2_with fail
  go_loop [3, 4] (fun v3 v4 => ∃ (i p : Int), v3 = .int .u64 p ∧ v4 = .int .i64 i ∧ 0 ≤ i ∧ i ≤ n ∧ p = ((2 ^ i.toNat : Nat) : Int)) (fun _ v4 => (n - intOf v4).toNat)
  case atStart => exact ⟨0, 1, rfl, rfl, by omega, h0, rfl⟩
  case round =>
    obtain ⟨i, p, rfl, rfl, i0, i1, hp⟩ := hrel
    have HP := hide hp
    have h3 : p ≤ 9223372036854775808 := by rw [hp]; exact pow_le63 (by omega)
    have h2 : 0 ≤ p := by rw [hp]; exact Int.natCast_nonneg _
    clear hp
    by_cases hc : i < n
    · have h4 : p ≤ 4611686018427387904 := by
        rw [unhide HP]
        have : 2 ^ i.toNat ≤ 2 ^ 62 := Nat.pow_le_pow_right (by omega) (by omega)
        omega
      have hm : IntKind.u64.wrap (2 * p) = 2 * p := by rw [IntKind.wrap_u64]; omega
      have HQ : Hid (2 * p = ((2 ^ (i + 1).toNat : Nat) : Int)) := by
        rw [unhide HP, show (i + 1).toNat = i.toNat + 1 by omega, Nat.pow_succ]
        unfold Hid
        omega
      go_wp2_with fail
      exact ⟨⟨i + 1, 2 * p, rfl, rfl, by omega, by omega, unhide HQ⟩, by simp [intOf]; omega⟩
    · go_wp2_with fail
      go_ret
      exact ⟨ret1 (by rw [unhide HP, show i = n by omega]; exact unhide HT), Below.refl _ _⟩

theorem two_f {w e f P Q b : Int} (h : Kd w e f P Q b) (W : World) : Calls Try.prog 24 #[.int .i64 f] W fun r W' => r = .returned (.int .u64 P) ∧ Below W.heap.size W W' := by
  rcases h with ⟨rfl, rfl, rfl, rfl, rfl, rfl⟩ | ⟨rfl, rfl, rfl, rfl, rfl, rfl⟩
  all_goals exact two_any _ _ W (by omega) (by omega) (by decide +kernel)
theorem two_e {w e f P Q b : Int} (h : Kd w e f P Q b) (W : World) : Calls Try.prog 24 #[.int .i64 e] W fun r W' => r = .returned (.int .u64 Q) ∧ Below W.heap.size W W' := by
  rcases h with ⟨rfl, rfl, rfl, rfl, rfl, rfl⟩ | ⟨rfl, rfl, rfl, rfl, rfl, rfl⟩
  all_goals exact two_any _ _ W (by omega) (by omega) (by decide +kernel)
theorem two_w {w e f P Q b : Int} (h : Kd w e f P Q b) (W : World) : Calls Try.prog 24 #[.int .i64 (w - 1)] W fun r W' => r = .returned (.int .u64 (P * Q)) ∧ Below W.heap.size W W' := by
  rcases h with ⟨rfl, rfl, rfl, rfl, rfl, rfl⟩ | ⟨rfl, rfl, rfl, rfl, rfl, rfl⟩
  all_goals exact two_any _ _ W (by omega) (by omega) (by decide +kernel)
theorem two_h {w e f P Q b : Int} (h : Kd w e f P Q b) (W : World) : Calls Try.prog 24 #[.int .i64 (f - 1)] W fun r W' => r = .returned (.int .u64 (P / 2)) ∧ Below W.heap.size W W' := by
  rcases h with ⟨rfl, rfl, rfl, rfl, rfl, rfl⟩ | ⟨rfl, rfl, rfl, rfl, rfl, rfl⟩
  all_goals exact two_any _ _ W (by omega) (by omega) (by decide +kernel)

set_option maxHeartbeats 400000 in
theorem refCut_any {w e f P Q b : Int} (x : Int) (h : Kd w e f P Q b) (W : World) (h0 : 0 ≤ x) (h1 : x < 18446744073709551616) :
    Calls Try.prog 43 #[.int .i64 w, .int .u64 x] W fun r W' => r = .returned (.int .u64 (cutN f P Q x)) ∧ Below W.heap.size W W' := by
  rcases h with ⟨rfl, rfl, rfl, rfl, rfl, rfl⟩ | ⟨rfl, rfl, rfl, rfl, rfl, rfl⟩
  · go_enter Try.func43, Try.ntmps43
    go_wp2
    go_ret
    exact ⟨rfl, Below.refl _ _⟩
  · have HE : Hid (x = cutN 52 4503599627370496 2048 x) := by
      show x = if (52 : Int) = 0 then 0 else x % 18446744073709551616
      rw [if_neg (by decide)]
      omega
    go_enter Try.func43, Try.ntmps43
    go_wp2
    go_ret
    exact ⟨ret1 (unhide HE), Below.refl _ _⟩

set_option maxHeartbeats 400000 in
theorem refTop_any {w e f P Q b : Int} (h : Kd w e f P Q b) (W : World) :
    Calls Try.prog 21 #[.int .i64 w] W fun r W' => r = .returned (.int .i64 (Q - 1)) ∧ Below W.heap.size W W' := by
  have q : 1 ≤ Q ∧ Q ≤ 2048 := by rcases h with h | h <;> omega
  have k1 : IntKind.i64.wrap Q = Q := i64_id (by omega) (by omega)
  have k2 : IntKind.i64.wrap (Q - 1) = Q - 1 := i64_id (by omega) (by omega)
  have HC := hide (fun W => refE_any h W)
  have HD := hide (fun W => two_e h W)
  clear q h
  go_enter Try.func21, Try.ntmps21
  go_wp2_with fail
  refine (unhide HC _).mono ?_
  rintro _ w1 ⟨rfl, hb1⟩
  go_wp2_with fail
  refine (unhide HD _).mono ?_
  rintro _ w2 ⟨rfl, hb2⟩
  go_wp2_with fail
  go_ret
  exact ⟨rfl, bthen hb1 hb2⟩

theorem quo_u64 {c R : Int} (h0 : 0 ≤ c) (h1 : c < 18446744073709551616) (hR : 0 < R) : IntKind.u64.wrap (c.tdiv R) = c / R := by
  rw [Int.tdiv_eq_ediv_of_nonneg h0, IntKind.wrap_u64]
  have h2 := Int.ediv_le_self R h0
  have h3 := Int.ediv_nonneg h0 (Int.le_of_lt hR)
  omega
theorem frac_cut {w e f P Q b : Int} (x : Int) (h : Kd w e f P Q b) : cutN f P Q x / P % Q = x / P % Q ∧ (cutN f P Q x / (P * Q) == 1) = sg P Q x ∧ 0 ≤ cutN f P Q x ∧ cutN f P Q x < 18446744073709551616 := by
  unfold sg
  rcases h with ⟨rfl, rfl, rfl, rfl, rfl, rfl⟩ | ⟨rfl, rfl, rfl, rfl, rfl, rfl⟩
  · show (if (23 : Int) = 0 then 0 else x % 4294967296) / 8388608 % 256 = x / 8388608 % 256 ∧ ((if (23 : Int) = 0 then 0 else x % 4294967296) / 2147483648 == 1) = (x / 2147483648 % 2 == 1) ∧ (0 : Int) ≤ (if (23 : Int) = 0 then 0 else x % 4294967296) ∧ (if (23 : Int) = 0 then 0 else x % 4294967296) < 18446744073709551616
    rw [if_neg (show ¬ (23 : Int) = 0 by decide)]
    refine ⟨by omega, ?_, by omega, by omega⟩
    rw [show x % 4294967296 / 2147483648 = x / 2147483648 % 2 by omega]
  · show (if (52 : Int) = 0 then 0 else x % 18446744073709551616) / 4503599627370496 % 2048 = x / 4503599627370496 % 2048 ∧ ((if (52 : Int) = 0 then 0 else x % 18446744073709551616) / 9223372036854775808 == 1) = (x / 9223372036854775808 % 2 == 1) ∧ (0 : Int) ≤ (if (52 : Int) = 0 then 0 else x % 18446744073709551616) ∧ (if (52 : Int) = 0 then 0 else x % 18446744073709551616) < 18446744073709551616
    rw [if_neg (show ¬ (52 : Int) = 0 by decide)]
    refine ⟨by omega, ?_, by omega, by omega⟩
    rw [show x % 18446744073709551616 / 9223372036854775808 = x / 9223372036854775808 % 2 by omega]

set_option maxHeartbeats 400000 in
theorem refFrac_any {w e f P Q b : Int} (x : Int) (h : Kd w e f P Q b) (W : World) (h0 : 0 ≤ x) :
    Calls Try.prog 19 #[.int .i64 w, .int .u64 x] W fun r W' => r = .returned (.int .u64 (x % P)) ∧ Below W.heap.size W W' := by
  have HC := hide (fun W => refF_any h W)
  have HD := hide (fun W => two_f h W)
  have p0 : 0 < P := by rcases h with h | h <;> omega
  have p1 : (P == 0) = false := by simp; omega
  clear h
  go_enter Try.func19, Try.ntmps19
  go_wp2_with fail
  refine (unhide HC _).mono ?_
  rintro _ w1 ⟨rfl, hb1⟩
  go_wp2_with fail
  refine (unhide HD _).mono ?_
  rintro _ w2 ⟨rfl, hb2⟩
  go_wp2_with fail
  go_ret
  exact ⟨rfl, bthen hb1 hb2⟩

set_option maxHeartbeats 400000 in
theorem refNeg_any {w e f P Q b : Int} (x : Int) (h : Kd w e f P Q b) (W : World) (h0 : 0 ≤ x) (h1 : x < 18446744073709551616) :
    Calls Try.prog 20 #[.int .i64 w, .int .u64 x] W fun r W' => r = .returned (.bool (sg P Q x)) ∧ Below W.heap.size W W' := by
  have HC := hide (fun W => refCut_any x h W h0 h1)
  have HD := hide (fun W => two_w h W)
  have p0 : 0 < P * Q := by rcases h with ⟨_, _, _, rfl, rfl, _⟩ | ⟨_, _, _, rfl, rfl, _⟩ <;> decide
  have k1 : IntKind.i64.wrap (w - 1) = w - 1 := by rcases h with h | h <;> exact i64_id (by omega) (by omega)
  obtain ⟨c1, c2, c3, c4⟩ := frac_cut x h
  have HE := hide c2
  have k2 := quo_u64 c3 c4 p0
  clear c1 c2 c4 h h0 h1
  generalize cutN f P Q x = c at *
  generalize sg P Q x = n at *
  generalize P * Q = R at *
  go_enter Try.func20, Try.ntmps20
  go_wp2_with fail
  refine (unhide HC _).mono ?_
  rintro _ w1 ⟨rfl, hb1⟩
  go_wp2_with fail
  refine (unhide HD _).mono ?_
  rintro _ w2 ⟨rfl, hb2⟩
  go_wp2_with fail
  go_ret
  exact ⟨retb (unhide HE), bthen hb1 hb2⟩

set_option maxHeartbeats 1000000 in
theorem refExp_any {w e f P Q b : Int} (x : Int) (h : Kd w e f P Q b) (W : World) (h0 : 0 ≤ x) (h1 : x < 18446744073709551616) :
    Calls Try.prog 18 #[.int .i64 w, .int .u64 x] W fun r W' => r = .returned (.int .i64 (x / P % Q)) ∧ Below W.heap.size W W' := by
  have HC := hide (fun W => refCut_any x h W h0 h1)
  have HF := hide (fun W => refF_any h W)
  have HE := hide (fun W => refE_any h W)
  have HTf := hide (fun W => two_f h W)
  have HTe := hide (fun W => two_e h W)
  have p0 : 0 < P := by rcases h with h | h <;> omega
  have q0 : 0 < Q := by rcases h with h | h <;> omega
  have q1 : Q ≤ 2048 := by rcases h with h | h <;> omega
  obtain ⟨c1, c2, c3, c4⟩ := frac_cut x h
  have k2 := quo_u64 c3 c4 p0
  have p1 : ¬ P = 0 := by omega
  have q2 : ¬ Q = 0 := by omega
  have k3 : 0 ≤ cutN f P Q x / P := Int.ediv_nonneg c3 (Int.le_of_lt p0)
  have k4 : IntKind.i64.wrap (x / P % Q) = x / P % Q := by
    obtain ⟨u, v⟩ := exp_in (x / P) q0
    exact i64_id (by omega) (by omega)
  have k5 : (cutN f P Q x / P).tmod Q = x / P % Q := by rw [Int.tmod_eq_emod_of_nonneg k3, c1]
  clear c2 c4 h h0 h1 q1 p0 q0
  generalize x / P % Q = y at *
  generalize cutN f P Q x = c at *
  generalize c / P = d at *
  go_enter Try.func18, Try.ntmps18
  go_wp2_with fail
  have HB := hide ((Below.refl W.heap.size W).drew)
  refine wp_region_held_drew (S := Free) (by kernel_rfl) ?_ (fun hHeld => ?_)
  · (try dsimp only)
    exact free _
  refine lst0 13 (by kernel_rfl) ?_
  refine tkA 0 5 1 ?_
  refine tkA 1 6 3 ?_
  refine tkA 3 8 11 ?_
  refine tkA 7 12 139 ?_
  refine rdA 2 143 (fun Kk hKk => ?_)
  go_simp
  refine (unhide HC _).mono ?_
  rintro _ wn ⟨rfl, hbl⟩
  have HB := hide (bthen (unhide HB) hbl)
  (try go_wp2_with fail)
  refine hKk.out _ _ ?_ (fun hHeld => ?_)
  · (try dsimp only)
    exact free _
  clear hKk Kk
  (try simp only [List.setIfInBounds_toArray, List.set_cons_zero, List.set_cons_succ])
  refine rdA 4 159 (fun Kk hKk => ?_)
  go_simp
  refine (unhide HF _).mono ?_
  rintro _ wn ⟨rfl, hbl⟩
  have HB := hide (bthen (unhide HB) hbl)
  (try go_wp2_with fail)
  refine hKk.out _ _ ?_ (fun hHeld => ?_)
  · (try dsimp only)
    exact free _
  clear hKk Kk
  (try simp only [List.setIfInBounds_toArray, List.set_cons_zero, List.set_cons_succ])
  refine rdA 5 191 (fun Kk hKk => ?_)
  go_simp
  refine (unhide HTf _).mono ?_
  rintro _ wn ⟨rfl, hbl⟩
  have HB := hide (bthen (unhide HB) hbl)
  (try go_wp2_with fail)
  refine hKk.out _ _ ?_ (fun hHeld => ?_)
  · (try dsimp only)
    exact free _
  clear hKk Kk
  (try simp only [List.setIfInBounds_toArray, List.set_cons_zero, List.set_cons_succ])
  refine tkA 6 11 255 ?_
  refine rdA 8 511 (fun Kk hKk => ?_)
  go_simp
  refine (unhide HE _).mono ?_
  rintro _ wn ⟨rfl, hbl⟩
  have HB := hide (bthen (unhide HB) hbl)
  (try go_wp2_with fail)
  refine hKk.out _ _ ?_ (fun hHeld => ?_)
  · (try dsimp only)
    exact free _
  clear hKk Kk
  (try simp only [List.setIfInBounds_toArray, List.set_cons_zero, List.set_cons_succ])
  refine rdA 9 1023 (fun Kk hKk => ?_)
  go_simp
  refine (unhide HTe _).mono ?_
  rintro _ wn ⟨rfl, hbl⟩
  have HB := hide (bthen (unhide HB) hbl)
  (try go_wp2_with fail)
  refine hKk.out _ _ ?_ (fun hHeld => ?_)
  · (try dsimp only)
    exact free _
  clear hKk Kk
  (try simp only [List.setIfInBounds_toArray, List.set_cons_zero, List.set_cons_succ])
  refine tkA 10 15 2047 ?_
  refine tkA 11 16 4095 ?_
  refine tkA 12 4 8191 ?_
  refine wpAnyH_done (by kernel_rfl) ?_ _
  go_wp2_with fail
  go_ret
  exact ⟨rfl, unhide HB⟩

theorem put_no {f P Q x y : Int} (hf : f ≠ 0) : put f P Q false x y = x * P + y := by unfold put; rw [if_neg hf]; simp
theorem put_yes {f P Q x y : Int} (hf : f ≠ 0) : put f P Q true x y = x * P + y + P * Q := by unfold put; rw [if_neg hf]; simp

set_option maxHeartbeats 1000000 in
theorem make_any {w e f P Q b : Int} (n : Bool) (x y : Int) (h : Kd w e f P Q b) (W : World) (x0 : 0 ≤ x) (x1 : x < Q) (y0 : 0 ≤ y) (y1 : y < P) :
    Calls Try.prog 14 #[.int .i64 w, .bool n, .int .i64 x, .int .u64 y] W fun r W' => r = .returned (.int .u64 (put f P Q n x y)) ∧ Below W.heap.size W W' := by
  have HC := hide (fun W => refF_any h W)
  have HD := hide (fun W => two_f h W)
  have HW := hide (fun W => two_w h W)
  have a1 : IntKind.u64.wrap x = x := by rw [IntKind.wrap_u64]; rcases h with h | h <;> omega
  have a2 : IntKind.u64.wrap (x * P) = x * P := by rw [IntKind.wrap_u64]; rcases h with ⟨_, _, _, rfl, rfl, _⟩ | ⟨_, _, _, rfl, rfl, _⟩ <;> omega
  have a3 : IntKind.u64.wrap (x * P + y) = x * P + y := by rw [IntKind.wrap_u64]; rcases h with ⟨_, _, _, rfl, rfl, _⟩ | ⟨_, _, _, rfl, rfl, _⟩ <;> omega
  have a4 : IntKind.u64.wrap (x * P + y + P * Q) = x * P + y + P * Q := by rw [IntKind.wrap_u64]; rcases h with ⟨_, _, _, rfl, rfl, _⟩ | ⟨_, _, _, rfl, rfl, _⟩ <;> omega
  have a5 : IntKind.i64.wrap (w - 1) = w - 1 := by rcases h with h | h <;> exact i64_id (by omega) (by omega)
  have HN := hide (put_no (P := P) (Q := Q) (x := x) (y := y) h.f0)
  have HY := hide (put_yes (P := P) (Q := Q) (x := x) (y := y) h.f0)
  clear h x0 x1 y0 y1
  generalize P * Q = R at *
  cases n
  · go_enter Try.func14, Try.ntmps14
    go_wp2_with fail
    refine (unhide HC _).mono ?_
    rintro _ w1 ⟨rfl, hb1⟩
    go_wp2_with fail
    refine (unhide HD _).mono ?_
    rintro _ w2 ⟨rfl, hb2⟩
    go_wp2_with fail
    go_ret
    exact ⟨ret1 (by rw [unhide HN]), bthen hb1 hb2⟩
  · go_enter Try.func14, Try.ntmps14
    go_wp2_with fail
    refine (unhide HC _).mono ?_
    rintro _ w1 ⟨rfl, hb1⟩
    go_wp2_with fail
    refine (unhide HD _).mono ?_
    rintro _ w2 ⟨rfl, hb2⟩
    go_wp2_with fail
    refine (unhide HW _).mono ?_
    rintro _ w3 ⟨rfl, hb3⟩
    go_wp2_with fail
    go_ret
    exact ⟨ret1 (by rw [unhide HY]), bthen (bthen hb1 hb2) hb3⟩

theorem Kd.pos {w e f P Q b : Int} (h : Kd w e f P Q b) : 2 ≤ P ∧ P ≤ 4503599627370496 ∧ 2 ≤ Q ∧ Q ≤ 2048 := by rcases h with h | h <;> omega

set_option maxHeartbeats 1000000 in
theorem refNan_any {w e f P Q b : Int} (h : Kd w e f P Q b) (W : World) :
    Calls Try.prog 17 #[.int .i64 w] W fun r W' => r = .returned (.int .u64 (put f P Q false (Q - 1) (P / 2))) ∧ Below W.heap.size W W' := by
  obtain ⟨p1, p2, q1, q2⟩ := h.pos
  have HT := hide (fun W => refTop_any h W)
  have HF := hide (fun W => refF_any h W)
  have HH := hide (fun W => two_h h W)
  have HM := hide (fun W => make_any false (Q - 1) (P / 2) h W (by omega) (by omega) (by omega) (by omega))
  have a5 : IntKind.i64.wrap (f - 1) = f - 1 := by rcases h with h | h <;> exact i64_id (by omega) (by omega)
  clear h p1 p2 q1 q2
  go_enter Try.func17, Try.ntmps17
  go_wp2_with fail
  refine (unhide HT _).mono ?_
  rintro _ w1 ⟨rfl, hb1⟩
  go_wp2_with fail
  refine (unhide HF _).mono ?_
  rintro _ w2 ⟨rfl, hb2⟩
  go_wp2_with fail
  refine (unhide HH _).mono ?_
  rintro _ w3 ⟨rfl, hb3⟩
  go_wp2_with fail
  refine (unhide HM _).mono ?_
  rintro _ w4 ⟨rfl, hb4⟩
  go_wp2_with fail
  go_ret
  exact ⟨rfl, bthen (bthen (bthen hb1 hb2) hb3) hb4⟩

set_option maxHeartbeats 1000000 in
theorem refInf_any {w e f P Q b : Int} (n : Bool) (h : Kd w e f P Q b) (W : World) :
    Calls Try.prog 16 #[.int .i64 w, .bool n] W fun r W' => r = .returned (.int .u64 (put f P Q n (Q - 1) 0)) ∧ Below W.heap.size W W' := by
  obtain ⟨p1, p2, q1, q2⟩ := h.pos
  have HT := hide (fun W => refTop_any h W)
  have HM := hide (fun W => make_any n (Q - 1) 0 h W (by omega) (by omega) (by omega) (by omega))
  clear h p1 p2 q1 q2
  go_enter Try.func16, Try.ntmps16
  go_wp2_with fail
  refine (unhide HT _).mono ?_
  rintro _ w1 ⟨rfl, hb1⟩
  go_wp2_with fail
  refine (unhide HM _).mono ?_
  rintro _ w4 ⟨rfl, hb4⟩
  go_wp2_with fail
  go_ret
  exact ⟨rfl, bthen hb1 hb4⟩

end Go.Proofs.Ytahdcbjfabccpaa
