/- Contracts of the reference's small functions. -/
import Derived.Test.YtpbgpdmffejdgaaGreatDoorEnds
import Derived.Test.YtpbgpdmffejdgaaGreatDoorTk
namespace Go.Proofs.YtpbgpdmffejdgaaGreatDoor
open Go.RowKit

/-- A width that is one. -/
def Kd (w e f P Q b : Int) : Prop := (w = 32 ∧ e = 8 ∧ f = 23 ∧ P = 8388608 ∧ Q = 256 ∧ b = 127) ∨ (w = 64 ∧ e = 11 ∧ f = 52 ∧ P = 4503599627370496 ∧ Q = 2048 ∧ b = 1023)
theorem Kd.wd {w e f P Q b : Int} (h : Kd w e f P Q b) : Wd w e f P Q b := by
  rcases h with h | h
  · exact Or.inl h
  · exact Or.inr (Or.inl h)
theorem Wd.known {w e f P Q b : Int} (h : Wd w e f P Q b) (hf : f ≠ 0) : Kd w e f P Q b := by
  rcases h with h | h | h
  · exact Or.inl h
  · exact Or.inr h
  · exact absurd h.2.2.1 hf
theorem Kd.f0 {w e f P Q b : Int} (h : Kd w e f P Q b) : f ≠ 0 := by rcases h with h | h <;> omega

set_option maxHeartbeats 400000 in
theorem refE_any {w e f P Q b : Int} (h : Kd w e f P Q b) (W : World) :
    Calls Tryz.prog 252 #[.int .i64 w] W fun r W' => r = .returned (.int .i64 e) ∧ Below W.heap.size W W' := by
  rcases h with ⟨rfl, rfl, rfl, rfl, rfl, rfl⟩ | ⟨rfl, rfl, rfl, rfl, rfl, rfl⟩
  all_goals
    go_enter Tryz.func252, Tryz.ntmps252
    go_wp2
    go_ret
    exact ⟨rfl, Below.refl _ _⟩

set_option maxHeartbeats 400000 in
theorem refB_any {w e f P Q b : Int} (h : Kd w e f P Q b) (W : World) :
    Calls Tryz.prog 181 #[.int .i64 w] W fun r W' => r = .returned (.int .i64 b) ∧ Below W.heap.size W W' := by
  rcases h with ⟨rfl, rfl, rfl, rfl, rfl, rfl⟩ | ⟨rfl, rfl, rfl, rfl, rfl, rfl⟩
  all_goals
    go_enter Tryz.func181, Tryz.ntmps181
    go_wp2
    go_ret
    exact ⟨rfl, Below.refl _ _⟩

set_option maxHeartbeats 400000 in
theorem refF_any {w e f P Q b : Int} (h : Kd w e f P Q b) (W : World) :
    Calls Tryz.prog 182 #[.int .i64 w] W fun r W' => r = .returned (.int .i64 f) ∧ Below W.heap.size W W' := by
  have HE := hide (fun W => refE_any h W)
  rcases h with ⟨rfl, rfl, rfl, rfl, rfl, rfl⟩ | ⟨rfl, rfl, rfl, rfl, rfl, rfl⟩
  all_goals
    go_enter Tryz.func182, Tryz.ntmps182
    go_wp2_with fail
    refine (unhide HE _).mono ?_
    rintro _ w1 ⟨rfl, hb1⟩
    go_wp2
    go_ret
    exact ⟨rfl, hb1⟩

theorem pow_le63 {k : Nat} (h : k ≤ 63) : ((2 ^ k : Nat) : Int) ≤ 9223372036854775808 := by
  have : 2 ^ k ≤ 2 ^ 63 := Nat.pow_le_pow_right (by omega) h
  omega
set_option maxHeartbeats 1000000 in
theorem two_any (n T : Int) (W : World) (h0 : 0 ≤ n) (h1 : n ≤ 63) (hT : ((2 ^ n.toNat : Nat) : Int) = T) :
    Calls Tryz.prog 183 #[.int .i64 n] W fun r W' => r = .returned (.int .u64 T) ∧ Below W.heap.size W W' := by
  have HT := hide hT
  clear hT
  go_enter Tryz.func183, Tryz.ntmps183
  go_wp2_with fail
  go_loop [3, 4] (fun v3 v4 => ∃ (i p : Int), v3 = .int .u64 p ∧ v4 = .int .i64 i ∧ 0 ≤ i ∧ i ≤ n ∧ p = ((2 ^ i.toNat : Nat) : Int)) (fun _ v4 => (n - intOf v4).toNat)
  case atStart => exact ⟨0, 1, rfl, rfl, by omega, h0, rfl⟩
  case round =>
    obtain ⟨i, p, rfl, rfl, i0, i1, hp⟩ := hrel
    have HP := hide hp
    have h3 : p ≤ 9223372036854775808 := by rw [hp]; exact pow_le63 (by omega)
    have h2 : 0 ≤ p := by rw [hp]; exact Int.natCast_nonneg _
    clear hp
    by_cases hc : i < n
    · have h4 : p ≤ 4611686018427387904 := by
        rw [unhide HP]
        have : 2 ^ i.toNat ≤ 2 ^ 62 := Nat.pow_le_pow_right (by omega) (by omega)
        omega
      have hm : IntKind.u64.wrap (2 * p) = 2 * p := by rw [IntKind.wrap_u64]; omega
      have HQ : Hid (2 * p = ((2 ^ (i + 1).toNat : Nat) : Int)) := by
        rw [unhide HP, show (i + 1).toNat = i.toNat + 1 by omega, Nat.pow_succ]
        unfold Hid
        omega
      go_wp2_with fail
      exact ⟨⟨i + 1, 2 * p, rfl, rfl, by omega, by omega, unhide HQ⟩, by simp [intOf]; omega⟩
    · go_wp2_with fail
      go_ret
      exact ⟨ret1 (by rw [unhide HP, show i = n by omega]; exact unhide HT), Below.refl _ _⟩

theorem two_f {w e f P Q b : Int} (h : Kd w e f P Q b) (W : World) : Calls Tryz.prog 183 #[.int .i64 f] W fun r W' => r = .returned (.int .u64 P) ∧ Below W.heap.size W W' := by
  rcases h with ⟨rfl, rfl, rfl, rfl, rfl, rfl⟩ | ⟨rfl, rfl, rfl, rfl, rfl, rfl⟩
  all_goals exact two_any _ _ W (by omega) (by omega) (by decide +kernel)
theorem two_e {w e f P Q b : Int} (h : Kd w e f P Q b) (W : World) : Calls Tryz.prog 183 #[.int .i64 e] W fun r W' => r = .returned (.int .u64 Q) ∧ Below W.heap.size W W' := by
  rcases h with ⟨rfl, rfl, rfl, rfl, rfl, rfl⟩ | ⟨rfl, rfl, rfl, rfl, rfl, rfl⟩
  all_goals exact two_any _ _ W (by omega) (by omega) (by decide +kernel)
theorem two_w {w e f P Q b : Int} (h : Kd w e f P Q b) (W : World) : Calls Tryz.prog 183 #[.int .i64 (w - 1)] W fun r W' => r = .returned (.int .u64 (P * Q)) ∧ Below W.heap.size W W' := by
  rcases h with ⟨rfl, rfl, rfl, rfl, rfl, rfl⟩ | ⟨rfl, rfl, rfl, rfl, rfl, rfl⟩
  all_goals exact two_any _ _ W (by omega) (by omega) (by decide +kernel)
theorem two_h {w e f P Q b : Int} (h : Kd w e f P Q b) (W : World) : Calls Tryz.prog 183 #[.int .i64 (f - 1)] W fun r W' => r = .returned (.int .u64 (P / 2)) ∧ Below W.heap.size W W' := by
  rcases h with ⟨rfl, rfl, rfl, rfl, rfl, rfl⟩ | ⟨rfl, rfl, rfl, rfl, rfl, rfl⟩
  all_goals exact two_any _ _ W (by omega) (by omega) (by decide +kernel)

set_option maxHeartbeats 400000 in
theorem refCut_any {w e f P Q b : Int} (x : Int) (h : Kd w e f P Q b) (W : World) (h0 : 0 ≤ x) (h1 : x < 18446744073709551616) :
    Calls Tryz.prog 41 #[.int .i64 w, .int .u64 x] W fun r W' => r = .returned (.int .u64 (cutN f P Q x)) ∧ Below W.heap.size W W' := by
  rcases h with ⟨rfl, rfl, rfl, rfl, rfl, rfl⟩ | ⟨rfl, rfl, rfl, rfl, rfl, rfl⟩
  · go_enter Tryz.func41, Tryz.ntmps41
    go_wp2
    go_ret
    exact ⟨rfl, Below.refl _ _⟩
  · have HE : Hid (x = cutN 52 4503599627370496 2048 x) := by
      show x = if (52 : Int) = 0 then 0 else x % 18446744073709551616
      rw [if_neg (by decide)]
      omega
    go_enter Tryz.func41, Tryz.ntmps41
    go_wp2
    go_ret
    exact ⟨ret1 (unhide HE), Below.refl _ _⟩

set_option maxHeartbeats 400000 in
theorem refTop_any {w e f P Q b : Int} (h : Kd w e f P Q b) (W : World) :
    Calls Tryz.prog 180 #[.int .i64 w] W fun r W' => r = .returned (.int .i64 (Q - 1)) ∧ Below W.heap.size W W' := by
  have q : 1 ≤ Q ∧ Q ≤ 2048 := by rcases h with h | h <;> omega
  have k1 : IntKind.i64.wrap Q = Q := i64_id (by omega) (by omega)
  have k2 : IntKind.i64.wrap (Q - 1) = Q - 1 := i64_id (by omega) (by omega)
  have HC := hide (fun W => refE_any h W)
  have HD := hide (fun W => two_e h W)
  clear q h
  go_enter Tryz.func180, Tryz.ntmps180
  go_wp2_with fail
  refine (unhide HC _).mono ?_
  rintro _ w1 ⟨rfl, hb1⟩
  go_wp2_with fail
  refine (unhide HD _).mono ?_
  rintro _ w2 ⟨rfl, hb2⟩
  go_wp2_with fail
  go_ret
  exact ⟨rfl, bthen hb1 hb2⟩

theorem quo_u64 {c R : Int} (h0 : 0 ≤ c) (h1 : c < 18446744073709551616) (hR : 0 < R) : IntKind.u64.wrap (c.tdiv R) = c / R := by
  rw [Int.tdiv_eq_ediv_of_nonneg h0, IntKind.wrap_u64]
  have h2 := Int.ediv_le_self R h0
  have h3 := Int.ediv_nonneg h0 (Int.le_of_lt hR)
  omega
theorem frac_cut {w e f P Q b : Int} (x : Int) (h : Kd w e f P Q b) : cutN f P Q x / P % Q = x / P % Q ∧ (cutN f P Q x / (P * Q) == 1) = sg P Q x ∧ 0 ≤ cutN f P Q x ∧ cutN f P Q x < 18446744073709551616 := by
  unfold sg
  rcases h with ⟨rfl, rfl, rfl, rfl, rfl, rfl⟩ | ⟨rfl, rfl, rfl, rfl, rfl, rfl⟩
  · show (if (23 : Int) = 0 then 0 else x % 4294967296) / 8388608 % 256 = x / 8388608 % 256 ∧ ((if (23 : Int) = 0 then 0 else x % 4294967296) / 2147483648 == 1) = (x / 2147483648 % 2 == 1) ∧ (0 : Int) ≤ (if (23 : Int) = 0 then 0 else x % 4294967296) ∧ (if (23 : Int) = 0 then 0 else x % 4294967296) < 18446744073709551616
    rw [if_neg (show ¬ (23 : Int) = 0 by decide)]
    refine ⟨by omega, ?_, by omega, by omega⟩
    rw [show x % 4294967296 / 2147483648 = x / 2147483648 % 2 by omega]
  · show (if (52 : Int) = 0 then 0 else x % 18446744073709551616) / 4503599627370496 % 2048 = x / 4503599627370496 % 2048 ∧ ((if (52 : Int) = 0 then 0 else x % 18446744073709551616) / 9223372036854775808 == 1) = (x / 9223372036854775808 % 2 == 1) ∧ (0 : Int) ≤ (if (52 : Int) = 0 then 0 else x % 18446744073709551616) ∧ (if (52 : Int) = 0 then 0 else x % 18446744073709551616) < 18446744073709551616
    rw [if_neg (show ¬ (52 : Int) = 0 by decide)]
    refine ⟨by omega, ?_, by omega, by omega⟩
    rw [show x % 18446744073709551616 / 9223372036854775808 = x / 9223372036854775808 % 2 by omega]

set_option maxHeartbeats 400000 in
theorem refFrac_any {w e f P Q b : Int} (x : Int) (h : Kd w e f P Q b) (W : World) (h0 : 0 ≤ x) :
    Calls Tryz.prog 179 #[.int .i64 w, .int .u64 x] W fun r W' => r = .returned (.int .u64 (x % P)) ∧ Below W.heap.size W W' := by
  have HC := hide (fun W => refF_any h W)
  have HD := hide (fun W => two_f h W)
  have p0 : 0 < P := by rcases h with h | h <;> omega
  have p1 : (P == 0) = false := by simp; omega
  clear h
  go_enter Tryz.func179, Tryz.ntmps179
  go_wp2_with fail
  refine (unhide HC _).mono ?_
  rintro _ w1 ⟨rfl, hb1⟩
  go_wp2_with fail
  refine (unhide HD _).mono ?_
  rintro _ w2 ⟨rfl, hb2⟩
  go_wp2_with fail
  go_ret
  exact ⟨rfl, bthen hb1 hb2⟩

set_option maxHeartbeats 400000 in
theorem refNeg_any {w e f P Q b : Int} (x : Int) (h : Kd w e f P Q b) (W : World) (h0 : 0 ≤ x) (h1 : x < 18446744073709551616) :
    Calls Tryz.prog 116 #[.int .i64 w, .int .u64 x] W fun r W' => r = .returned (.bool (sg P Q x)) ∧ Below W.heap.size W W' := by
  have HC := hide (fun W => refCut_any x h W h0 h1)
  have HD := hide (fun W => two_w h W)
  have p0 : 0 < P * Q := by rcases h with ⟨_, _, _, rfl, rfl, _⟩ | ⟨_, _, _, rfl, rfl, _⟩ <;> decide
  have k1 : IntKind.i64.wrap (w - 1) = w - 1 := by rcases h with h | h <;> exact i64_id (by omega) (by omega)
  obtain ⟨c1, c2, c3, c4⟩ := frac_cut x h
  have HE := hide c2
  have k2 := quo_u64 c3 c4 p0
  clear c1 c2 c4 h h0 h1
  generalize cutN f P Q x = c at *
  generalize sg P Q x = n at *
  generalize P * Q = R at *
  go_enter Tryz.func116, Tryz.ntmps116
  go_wp2_with fail
  refine (unhide HC _).mono ?_
  rintro _ w1 ⟨rfl, hb1⟩
  go_wp2_with fail
  refine (unhide HD _).mono ?_
  rintro _ w2 ⟨rfl, hb2⟩
  go_wp2_with fail
  go_ret
  exact ⟨retb (unhide HE), bthen hb1 hb2⟩

set_option maxHeartbeats 1000000 in
theorem refExp_any {w e f P Q b : Int} (x : Int) (h : Kd w e f P Q b) (W : World) (h0 : 0 ≤ x) (h1 : x < 18446744073709551616) :
    Calls Tryz.prog 178 #[.int .i64 w, .int .u64 x] W fun r W' => r = .returned (.int .i64 (x / P % Q)) ∧ Below W.heap.size W W' := by
  have HC := hide (fun W => refCut_any x h W h0 h1)
  have HF := hide (fun W => refF_any h W)
  have HE := hide (fun W => refE_any h W)
  have HTf := hide (fun W => two_f h W)
  have HTe := hide (fun W => two_e h W)
  have p0 : 0 < P := by rcases h with h | h <;> omega
  have q0 : 0 < Q := by rcases h with h | h <;> omega
  have q1 : Q ≤ 2048 := by rcases h with h | h <;> omega
  obtain ⟨c1, c2, c3, c4⟩ := frac_cut x h
  have k2 := quo_u64 c3 c4 p0
  have p1 : ¬ P = 0 := by omega
  have q2 : ¬ Q = 0 := by omega
  have k3 : 0 ≤ cutN f P Q x / P := Int.ediv_nonneg c3 (Int.le_of_lt p0)
  have k4 : IntKind.i64.wrap (x / P % Q) = x / P % Q := by
    obtain ⟨u, v⟩ := exp_in (x / P) q0
    exact i64_id (by omega) (by omega)
  have k5 : (cutN f P Q x / P).tmod Q = x / P % Q := by rw [Int.tmod_eq_emod_of_nonneg k3, c1]
  clear c2 c4 h h0 h1 q1 p0 q0
  generalize x / P % Q = y at *
  generalize cutN f P Q x = c at *
  generalize c / P = d at *
  go_enter Tryz.func178, Tryz.ntmps178
  go_wp2_with fail
  have HB := hide ((Below.refl W.heap.size W).drew)
  refine wp_region_held_drew (S := Free) (by kernel_rfl) ?_ (fun hHeld => ?_)
  · (try dsimp only)
    exact free _
  refine lst0 13 (by kernel_rfl) ?_
  refine tkA 0 5 1 ?_
  refine tkA 1 6 3 ?_
  refine tkA 3 8 11 ?_
  refine tkA 7 12 139 ?_
  refine rdA 2 143 (fun Kk hKk => ?_)
  go_simp
  refine (unhide HC _).mono ?_
  rintro _ wn ⟨rfl, hbl⟩
  have HB := hide (bthen (unhide HB) hbl)
  (try go_wp2_with fail)
  refine hKk.out _ _ ?_ (fun hHeld => ?_)
  · (try dsimp only)
    exact free _
  clear hKk Kk
  (try simp only [List.setIfInBounds_toArray, List.set_cons_zero, List.set_cons_succ])
  refine rdA 4 159 (fun Kk hKk => ?_)
  go_simp
  refine (unhide HF _).mono ?_
  rintro _ wn ⟨rfl, hbl⟩
  have HB := hide (bthen (unhide HB) hbl)
  (try go_wp2_with fail)
  refine hKk.out _ _ ?_ (fun hHeld => ?_)
  · (try dsimp only)
    exact free _
  clear hKk Kk
  (try simp only [List.setIfInBounds_toArray, List.set_cons_zero, List.set_cons_succ])
  refine rdA 5 191 (fun Kk hKk => ?_)
  go_simp
  refine (unhide HTf _).mono ?_
  rintro _ wn ⟨rfl, hbl⟩
  have HB := hide (bthen (unhide HB) hbl)
  (try go_wp2_with fail)
  refine hKk.out _ _ ?_ (fun hHeld => ?_)
  · (try dsimp only)
    exact free _
  clear hKk Kk
  (try simp only [List.setIfInBounds_toArray, List.set_cons_zero, List.set_cons_succ])
  refine tkA 6 11 255 ?_
  refine rdA 8 511 (fun Kk hKk => ?_)
  go_simp
  refine (unhide HE _).mono ?_
  rintro _ wn ⟨rfl, hbl⟩
  have HB := hide (bthen (unhide HB) hbl)
  (try go_wp2_with fail)
  refine hKk.out _ _ ?_ (fun hHeld => ?_)
  · (try dsimp only)
    exact free _
  clear hKk Kk
  (try simp only [List.setIfInBounds_toArray, List.set_cons_zero, List.set_cons_succ])
  refine rdA 9 1023 (fun Kk hKk => ?_)
  go_simp
  refine (unhide HTe _).mono ?_
  rintro _ wn ⟨rfl, hbl⟩
  have HB := hide (bthen (unhide HB) hbl)
  (try go_wp2_with fail)
  refine hKk.out _ _ ?_ (fun hHeld => ?_)
  · (try dsimp only)
    exact free _
  clear hKk Kk
  (try simp only [List.setIfInBounds_toArray, List.set_cons_zero, List.set_cons_succ])
  refine tkA 10 15 2047 ?_
  refine tkA 11 16 4095 ?_
  refine tkA 12 4 8191 ?_
  refine wpAnyH_done (by kernel_rfl) ?_ _
  go_wp2_with fail
  go_ret
  exact ⟨rfl, unhide HB⟩

theorem put_no {f P Q x y : Int} (hf : f ≠ 0) : put f P Q false x y = x * P + y := by unfold put; rw [if_neg hf]; simp
theorem put_yes {f P Q x y : Int} (hf : f ≠ 0) : put f P Q true x y = x * P + y + P * Q := by unfold put; rw [if_neg hf]; simp

set_option maxHeartbeats 1000000 in
theorem make_any {w e f P Q b : Int} (n : Bool) (x y : Int) (h : Kd w e f P Q b) (W : World) (x0 : 0 ≤ x) (x1 : x < Q) (y0 : 0 ≤ y) (y1 : y < P) :
    Calls Tryz.prog 174 #[.int .i64 w, .bool n, .int .i64 x, .int .u64 y] W fun r W' => r = .returned (.int .u64 (put f P Q n x y)) ∧ Below W.heap.size W W' := by
  have HC := hide (fun W => refF_any h W)
  have HD := hide (fun W => two_f h W)
  have HW := hide (fun W => two_w h W)
  have a1 : IntKind.u64.wrap x = x := by rw [IntKind.wrap_u64]; rcases h with h | h <;> omega
  have a2 : IntKind.u64.wrap (x * P) = x * P := by rw [IntKind.wrap_u64]; rcases h with ⟨_, _, _, rfl, rfl, _⟩ | ⟨_, _, _, rfl, rfl, _⟩ <;> omega
  have a3 : IntKind.u64.wrap (x * P + y) = x * P + y := by rw [IntKind.wrap_u64]; rcases h with ⟨_, _, _, rfl, rfl, _⟩ | ⟨_, _, _, rfl, rfl, _⟩ <;> omega
  have a4 : IntKind.u64.wrap (x * P + y + P * Q) = x * P + y + P * Q := by rw [IntKind.wrap_u64]; rcases h with ⟨_, _, _, rfl, rfl, _⟩ | ⟨_, _, _, rfl, rfl, _⟩ <;> omega
  have a5 : IntKind.i64.wrap (w - 1) = w - 1 := by rcases h with h | h <;> exact i64_id (by omega) (by omega)
  have HN := hide (put_no (P := P) (Q := Q) (x := x) (y := y) h.f0)
  have HY := hide (put_yes (P := P) (Q := Q) (x := x) (y := y) h.f0)
  clear h x0 x1 y0 y1
  generalize P * Q = R at *
  cases n
  · go_enter Tryz.func174, Tryz.ntmps174
    go_wp2_with fail
    refine (unhide HC _).mono ?_
    rintro _ w1 ⟨rfl, hb1⟩
    go_wp2_with fail
    refine (unhide HD _).mono ?_
    rintro _ w2 ⟨rfl, hb2⟩
    go_wp2_with fail
    go_ret
    exact ⟨ret1 (by rw [unhide HN]), bthen hb1 hb2⟩
  · go_enter Tryz.func174, Tryz.ntmps174
    go_wp2_with fail
    refine (unhide HC _).mono ?_
    rintro _ w1 ⟨rfl, hb1⟩
    go_wp2_with fail
    refine (unhide HD _).mono ?_
    rintro _ w2 ⟨rfl, hb2⟩
    go_wp2_with fail
    refine (unhide HW _).mono ?_
    rintro _ w3 ⟨rfl, hb3⟩
    go_wp2_with fail
    go_ret
    exact ⟨ret1 (by rw [unhide HY]), bthen (bthen hb1 hb2) hb3⟩

theorem Kd.pos {w e f P Q b : Int} (h : Kd w e f P Q b) : 2 ≤ P ∧ P ≤ 4503599627370496 ∧ 2 ≤ Q ∧ Q ≤ 2048 := by rcases h with h | h <;> omega

set_option maxHeartbeats 1000000 in
theorem refNan_any {w e f P Q b : Int} (h : Kd w e f P Q b) (W : World) :
    Calls Tryz.prog 177 #[.int .i64 w] W fun r W' => r = .returned (.int .u64 (put f P Q false (Q - 1) (P / 2))) ∧ Below W.heap.size W W' := by
  obtain ⟨p1, p2, q1, q2⟩ := h.pos
  have HT := hide (fun W => refTop_any h W)
  have HF := hide (fun W => refF_any h W)
  have HH := hide (fun W => two_h h W)
  have HM := hide (fun W => make_any false (Q - 1) (P / 2) h W (by omega) (by omega) (by omega) (by omega))
  have a5 : IntKind.i64.wrap (f - 1) = f - 1 := by rcases h with h | h <;> exact i64_id (by omega) (by omega)
  clear h p1 p2 q1 q2
  go_enter Tryz.func177, Tryz.ntmps177
  go_wp2_with fail
  refine (unhide HT _).mono ?_
  rintro _ w1 ⟨rfl, hb1⟩
  go_wp2_with fail
  refine (unhide HF _).mono ?_
  rintro _ w2 ⟨rfl, hb2⟩
  go_wp2_with fail
  refine (unhide HH _).mono ?_
  rintro _ w3 ⟨rfl, hb3⟩
  go_wp2_with fail
  refine (unhide HM _).mono ?_
  rintro _ w4 ⟨rfl, hb4⟩
  go_wp2_with fail
  go_ret
  exact ⟨rfl, bthen (bthen (bthen hb1 hb2) hb3) hb4⟩

set_option maxHeartbeats 1000000 in
theorem refInf_any {w e f P Q b : Int} (n : Bool) (h : Kd w e f P Q b) (W : World) :
    Calls Tryz.prog 176 #[.int .i64 w, .bool n] W fun r W' => r = .returned (.int .u64 (put f P Q n (Q - 1) 0)) ∧ Below W.heap.size W W' := by
  obtain ⟨p1, p2, q1, q2⟩ := h.pos
  have HT := hide (fun W => refTop_any h W)
  have HM := hide (fun W => make_any n (Q - 1) 0 h W (by omega) (by omega) (by omega) (by omega))
  clear h p1 p2 q1 q2
  go_enter Tryz.func176, Tryz.ntmps176
  go_wp2_with fail
  refine (unhide HT _).mono ?_
  rintro _ w1 ⟨rfl, hb1⟩
  go_wp2_with fail
  refine (unhide HM _).mono ?_
  rintro _ w4 ⟨rfl, hb4⟩
  go_wp2_with fail
  go_ret
  exact ⟨rfl, bthen hb1 hb4⟩

end Go.Proofs.YtpbgpdmffejdgaaGreatDoor
