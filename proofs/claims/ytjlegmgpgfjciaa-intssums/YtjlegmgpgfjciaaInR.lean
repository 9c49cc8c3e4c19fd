/- The reference's nat, mod, Add, Sub, Mul. -/
import Derived.Test.YtjlegmgpgfjciaaInD
import Derived.Test.YtjlegmgpgfjciaaInS
import Derived.Test.YtjlegmgpgfjciaaWRefK
import Derived.Test.YtjlegmgpgfjciaaWRefJ
namespace Go.Proofs.Ytjlegmgpgfjciaa
open Go.RowKit
open Go.Proofs.Ytjlegmgpgfjciaa.W

set_option maxHeartbeats 4000000 in
set_option maxRecDepth 100000 in
theorem nat_w {w a c : Int} (HC : Ct 20 #[.int .i64 w, .int .u64 a] (.int .u64 c)) (c0 : 0 ≤ c) (c1 : c < 18446744073709551616) : Hid (∀ W, Calls Try.prog 41 #[.int .i64 w, .int .u64 a] W fun e w' => ∃ s, e = .returned (.agg #[s]) ∧ IsNat w' s (c.toNat) ∧ Below W.heap.size W w') := by
  refine hide (fun W => ?_)
  go_enter Try.func41, Try.ntmps41
  go_wp2_with fail
  have HB := hide (below1 W (.cells #[.slice none 0 0] 45))
  have HC0 : Hid ((W.alloc (.cells #[.slice none 0 0] 45)).cell? ⟨W.heap.size, 0, none⟩ = some (.slice none 0 0) ∧ (W.alloc (.cells #[.slice none 0 0] 45)).frozen? ⟨W.heap.size, 0, none⟩ = false) := by unfold Hid; simp [go_sem]
  refine (unhide HC _).mono ?_
  rintro _ w1 ⟨rfl, hb⟩
  have HB := hide (bthen (unhide HB) hb)
  have HC0 := hide (And.intro (keep1 hb (lt_of_cell (unhide HC0).1) (unhide HC0).1) ((hb.frozen (lt_of_cell (unhide HC0).1)).trans (unhide HC0).2))
  clear hb
  go_wp2_with fail
  refine (refOf_any c _ c0 c1).mono ?_
  rintro _ w2 ⟨s2, rfl, hN, hb⟩
  obtain ⟨a2, m2, c2, rfl⟩ := hN.slice
  have HB := hide (bthen (unhide HB) hb)
  have HC0 := hide (And.intro (keep1 hb (lt_of_cell (unhide HC0).1) (unhide HC0).1) ((hb.frozen (lt_of_cell (unhide HC0).1)).trans (unhide HC0).2))
  have HN := hide hN
  clear hb hN
  obtain ⟨d0, d1⟩ := unhide HC0
  go_wp2
  refine bodyPost_ret (v := .agg #[.slice a2 m2 c2]) (by simp [results, Try.results41, go_sem, d0]) rfl ⟨_, rfl, (unhide HN).store d0 _, bset (unhide HB) _ (Nat.le_refl _) _ _⟩
theorem nat_K {w H M : Int} {n : Nat} (k : Wm w n H M) {a : Int} (ha : Rg a) : Hid (∀ W, Calls Try.prog 41 #[.int .i64 w, .int .u64 a] W fun e w' => ∃ s, e = .returned (.agg #[s]) ∧ IsNat w' s ((a % M).toNat) ∧ Below W.heap.size W w') := nat_w (rcut_K k ha) (k.rg a).1 (k.rg a).2
set_option maxHeartbeats 4000000 in
set_option maxRecDepth 100000 in
theorem mod_w {w c : Int} {x : Nat} (HC : Ct 20 #[.int .i64 w, .int .u64 (lo x)] (.int .u64 c)) : Hid (∀ (a1 : Option Addr) (m1 c1 : Nat) W, IsNat W (.slice a1 m1 c1) x → Calls Try.prog 39 #[.int .i64 w, .agg #[.slice a1 m1 c1]] W fun r W' => r = .returned (.int .u64 c) ∧ Below W.heap.size W W') := by
  refine hide (fun a1 m1 c1 W hN => ?_)
  have HN := hide (hN.alloc (.cells #[.slice a1 m1 c1] 45))
  clear hN
  go_enter Try.func39, Try.ntmps39
  go_wp2_with fail
  have HB := hide (below1 W (.cells #[.slice a1 m1 c1] 45))
  refine (uint_any _ _ _ _ _ (unhide HN)).mono ?_
  rintro _ w1 ⟨rfl, hb⟩
  have HB := hide (bthen (unhide HB) hb)
  clear hb
  go_wp2_with fail
  refine (unhide HC _).mono ?_
  rintro _ w2 ⟨rfl, hb⟩
  have HB := hide (bthen (unhide HB) hb)
  clear hb
  go_wp2_with fail
  go_ret
  exact ⟨rfl, unhide HB⟩
theorem mod_K {w H M : Int} {n : Nat} (k : Wm w n H M) (x : Nat) : Hid (∀ (a1 : Option Addr) (m1 c1 : Nat) W, IsNat W (.slice a1 m1 c1) x → Calls Try.prog 39 #[.int .i64 w, .agg #[.slice a1 m1 c1]] W fun r W' => r = .returned (.int .u64 ((x : Int) % M)) ∧ Below W.heap.size W W') := by
  have h := rcut_K k (a := lo x) (by unfold Rg lo; omega)
  rw [show lo x % M = (x : Int) % M by unfold lo; rcases k with ⟨rfl, rfl, rfl, rfl⟩ | ⟨rfl, rfl, rfl, rfl⟩ <;> omega] at h
  exact mod_w h
theorem lt_2 {x : Int} (h : Rg x) : x.toNat < pw 2 := by rw [pw_2]; unfold Rg at h; omega
set_option maxHeartbeats 4000000 in
set_option maxRecDepth 100000 in
theorem add_w {w a b r : Int} {x y : Nat} (HA : Hid (∀ W, Calls Try.prog 41 #[.int .i64 w, .int .u64 a] W fun e w' => ∃ s, e = .returned (.agg #[s]) ∧ IsNat w' s (x) ∧ Below W.heap.size W w')) (HD : Hid (∀ W, Calls Try.prog 41 #[.int .i64 w, .int .u64 b] W fun e w' => ∃ s, e = .returned (.agg #[s]) ∧ IsNat w' s (y) ∧ Below W.heap.size W w')) (hx : x < pw 2) (hy : y < pw 2)
    (HM : Hid (∀ (a1 : Option Addr) (m1 c1 : Nat) W, IsNat W (.slice a1 m1 c1) (x + y) → Calls Try.prog 39 #[.int .i64 w, .agg #[.slice a1 m1 c1]] W fun r' W' => r' = .returned (.int .u64 r) ∧ Below W.heap.size W W')) : Ct 13 #[.int .i64 w, .int .u64 a, .int .u64 b] (.int .u64 r) := by
  refine hide (fun W => ?_)
  have HB := hide (Below.refl W.heap.size W)
  go_enter Try.func13, Try.ntmps13
  go_wp2_with fail
  refine (unhide HA _).mono ?_
  rintro _ w1 ⟨s1, rfl, hN, hb⟩
  obtain ⟨a1, m1, c1, rfl⟩ := hN.slice
  have HB := hide (bthen (unhide HB) hb)
  have HN1 := hide hN
  clear hb hN
  go_wp2_with fail
  refine (unhide HD _).mono ?_
  rintro _ w2 ⟨s2, rfl, hN, hb⟩
  obtain ⟨a2, m2, c2, rfl⟩ := hN.slice
  have HB := hide (bthen (unhide HB) hb)
  have HN1 := hide ((unhide HN1).below hb)
  have HN2 := hide hN
  clear hb hN
  go_wp2_with fail
  have z1 := (unhide HN1).short hx
  have z2 := (unhide HN2).short hy
  refine (refAdd_any _ _ _ _ _ _ _ _ _ (unhide HN1) (unhide HN2) (by omega) (by omega)).mono ?_
  rintro _ w3 ⟨s3, rfl, hN, hb⟩
  obtain ⟨a3, m3, c3, rfl⟩ := hN.slice
  have HB := hide (bthen (unhide HB) hb)
  have HN3 := hide hN
  clear hb hN
  go_wp2_with fail
  refine (unhide HM _ _ _ _ (unhide HN3)).mono ?_
  rintro _ w4 ⟨rfl, hb⟩
  have HB := hide (bthen (unhide HB) hb)
  clear hb
  go_wp2_with fail
  go_ret
  exact ⟨rfl, unhide HB⟩
set_option maxHeartbeats 4000000 in
set_option maxRecDepth 100000 in
theorem mul_w {w a b r : Int} {x y : Nat} (HA : Hid (∀ W, Calls Try.prog 41 #[.int .i64 w, .int .u64 a] W fun e w' => ∃ s, e = .returned (.agg #[s]) ∧ IsNat w' s (x) ∧ Below W.heap.size W w')) (HD : Hid (∀ W, Calls Try.prog 41 #[.int .i64 w, .int .u64 b] W fun e w' => ∃ s, e = .returned (.agg #[s]) ∧ IsNat w' s (y) ∧ Below W.heap.size W w')) (hx : x < pw 2) (hy : y < pw 2)
    (HM : Hid (∀ (a1 : Option Addr) (m1 c1 : Nat) W, IsNat W (.slice a1 m1 c1) (x * y) → Calls Try.prog 39 #[.int .i64 w, .agg #[.slice a1 m1 c1]] W fun r' W' => r' = .returned (.int .u64 r) ∧ Below W.heap.size W W')) : Ct 15 #[.int .i64 w, .int .u64 a, .int .u64 b] (.int .u64 r) := by
  refine hide (fun W => ?_)
  have HB := hide (Below.refl W.heap.size W)
  go_enter Try.func15, Try.ntmps15
  go_wp2_with fail
  refine (unhide HA _).mono ?_
  rintro _ w1 ⟨s1, rfl, hN, hb⟩
  obtain ⟨a1, m1, c1, rfl⟩ := hN.slice
  have HB := hide (bthen (unhide HB) hb)
  have HN1 := hide hN
  clear hb hN
  go_wp2_with fail
  refine (unhide HD _).mono ?_
  rintro _ w2 ⟨s2, rfl, hN, hb⟩
  obtain ⟨a2, m2, c2, rfl⟩ := hN.slice
  have HB := hide (bthen (unhide HB) hb)
  have HN1 := hide ((unhide HN1).below hb)
  have HN2 := hide hN
  clear hb hN
  go_wp2_with fail
  have z1 := (unhide HN1).short hx
  have z2 := (unhide HN2).short hy
  refine (refMul_any _ _ _ _ _ _ _ _ _ (unhide HN1) (unhide HN2) (by omega) (by omega)).mono ?_
  rintro _ w3 ⟨s3, rfl, hN, hb⟩
  obtain ⟨a3, m3, c3, rfl⟩ := hN.slice
  have HB := hide (bthen (unhide HB) hb)
  have HN3 := hide hN
  clear hb hN
  go_wp2_with fail
  refine (unhide HM _ _ _ _ (unhide HN3)).mono ?_
  rintro _ w4 ⟨rfl, hb⟩
  have HB := hide (bthen (unhide HB) hb)
  clear hb
  go_wp2_with fail
  go_ret
  exact ⟨rfl, unhide HB⟩
set_option maxHeartbeats 4000000 in
set_option maxRecDepth 100000 in
theorem sub_w {a b r : Int} {n x y : Nat} (hn : n ≤ 64) (HA : Hid (∀ W, Calls Try.prog 41 #[.int .i64 (n : Int), .int .u64 a] W fun e w' => ∃ s, e = .returned (.agg #[s]) ∧ IsNat w' s (x) ∧ Below W.heap.size W w')) (HD : Hid (∀ W, Calls Try.prog 41 #[.int .i64 (n : Int), .int .u64 b] W fun e w' => ∃ s, e = .returned (.agg #[s]) ∧ IsNat w' s (y) ∧ Below W.heap.size W w')) (hx : x < pw 2) (hle : y ≤ x + 1 * 2 ^ n)
    (HM : Hid (∀ (a1 : Option Addr) (m1 c1 : Nat) W, IsNat W (.slice a1 m1 c1) (x + 1 * 2 ^ n - y) → Calls Try.prog 39 #[.int .i64 (n : Int), .agg #[.slice a1 m1 c1]] W fun r' W' => r' = .returned (.int .u64 r) ∧ Below W.heap.size W W')) : Ct 14 #[.int .i64 (n : Int), .int .u64 a, .int .u64 b] (.int .u64 r) := by
  have hp : 1 * 2 ^ n < pw 4 := by
    have := Nat.pow_le_pow_right (show 0 < 2 by omega) hn
    rw [pw_4]
    omega
  have hp4 : pw 2 ≤ pw 4 := pw_le (by omega)
  have hs : x + 1 * 2 ^ n < pw 5 := by rw [pw_succ]; omega
  refine hide (fun W => ?_)
  have HB := hide (Below.refl W.heap.size W)
  go_enter Try.func14, Try.ntmps14
  go_wp2_with fail
  refine (unhide HA _).mono ?_
  rintro _ w1 ⟨s1, rfl, hN, hb⟩
  obtain ⟨a1, m1, c1, rfl⟩ := hN.slice
  have HB := hide (bthen (unhide HB) hb)
  have HN1 := hide hN
  clear hb hN
  go_wp2_with fail
  refine (refOf_1 _).mono ?_
  rintro _ w2 ⟨s2, rfl, hN, hb⟩
  obtain ⟨a2, m2, c2, rfl⟩ := hN.slice
  have HB := hide (bthen (unhide HB) hb)
  have HN1 := hide ((unhide HN1).below hb)
  have HN2 := hide hN
  clear hb hN
  go_wp2_with fail
  have z2 := (unhide HN2).short (show 1 < pw 4 by rw [pw_4]; omega)
  refine (refShl_any _ _ _ _ n _ (unhide HN2) (by omega) (by omega)).mono ?_
  rintro _ w3 ⟨s3, rfl, hN, hb⟩
  obtain ⟨a3, m3, c3, rfl⟩ := hN.slice
  have HB := hide (bthen (unhide HB) hb)
  have HN1 := hide ((unhide HN1).below hb)
  have HN3 := hide hN
  clear hb hN HN2
  go_wp2_with fail
  have z1 := (unhide HN1).short hx
  have z3 := (unhide HN3).short hp
  generalize 1 * 2 ^ n = T at *
  refine (refAdd_any _ _ _ _ _ _ _ _ _ (unhide HN1) (unhide HN3) (by omega) (by omega)).mono ?_
  rintro _ w4 ⟨s4, rfl, hN, hb⟩
  obtain ⟨a4, m4, c4, rfl⟩ := hN.slice
  have z4 := hN.short hs
  have HB := hide ((balloc (bthen (unhide HB) hb) (.cells #[.slice a4 m4 c4] 45)).drew)
  have HN4 := hide ((hN.alloc (.cells #[.slice a4 m4 c4] 45)).below ((Below.refl _ _).drew))
  have HC0 : Hid ((w4.alloc (.cells #[.slice a4 m4 c4] 45)).drew.cell? ⟨w4.heap.size, 0, none⟩ = some (.slice a4 m4 c4)) := by unfold Hid; simp [go_sem]
  clear hb hN HN1 HN3
  go_wp2_with fail
  refine wp_region_held_drew (S := fun w' => w'.cell? ⟨w4.heap.size, 0, none⟩ = some (.slice a4 m4 c4)) (by kernel_rfl) ?_ (fun hHeld => ?_)
  · (try dsimp only)
    exact unhide HC0
  refine lst0 8 (by kernel_rfl) ?_
  refine tkA 0 15 1 ?_
  refine tkA 1 16 3 ?_
  refine tkA 2 17 7 ?_
  refine tkA 3 18 15 ?_
  refine rdA 4 31 (fun Kk hKk => ?_)
  go_simp
  refine (unhide HD _).mono ?_
  rintro _ w5 ⟨s5, rfl, hN, hb⟩
  obtain ⟨a5, m5, c5, rfl⟩ := hN.slice
  have HB := hide (bthen (unhide HB) hb)
  have HN4 := hide ((unhide HN4).below hb)
  have HN5 := hide hN
  have HC0 := hide (keep1 hb (lt_of_cell (unhide HC0)) (unhide HC0))
  clear hb hN
  (try go_wp2_with fail)
  refine hKk.out _ _ ?_ (fun hHeld => ?_)
  · (try dsimp only)
    exact unhide HC0
  clear hKk Kk
  (try simp only [List.setIfInBounds_toArray, List.set_cons_zero, List.set_cons_succ])
  refine rdA 5 63 (fun Kk hKk => ?_)
  go_simp
  refine (refSub_any _ _ _ _ _ _ _ _ _ (unhide HN4) (unhide HN5) (by omega) hle).mono ?_
  rintro _ w6 ⟨s6, rfl, hN, hb⟩
  obtain ⟨a6, m6, c6, rfl⟩ := hN.slice
  have HB := hide (bthen (unhide HB) hb)
  have HN6 := hide hN
  have HC0 := hide (keep1 hb (lt_of_cell (unhide HC0)) (unhide HC0))
  clear hb hN
  (try go_wp2_with fail)
  refine hKk.out _ _ ?_ (fun hHeld => ?_)
  · (try dsimp only)
    exact unhide HC0
  clear hKk Kk
  (try simp only [List.setIfInBounds_toArray, List.set_cons_zero, List.set_cons_succ])
  refine rdA 6 127 (fun Kk hKk => ?_)
  go_simp
  refine (unhide HM _ _ _ _ (unhide HN6)).mono ?_
  rintro _ w7 ⟨rfl, hb⟩
  have HB := hide (bthen (unhide HB) hb)
  have HC0 := hide (keep1 hb (lt_of_cell (unhide HC0)) (unhide HC0))
  clear hb
  (try go_wp2_with fail)
  refine hKk.out _ _ ?_ (fun hHeld => ?_)
  · (try dsimp only)
    exact unhide HC0
  clear hKk Kk
  (try simp only [List.setIfInBounds_toArray, List.set_cons_zero, List.set_cons_succ])
  refine tkA 7 6 255 ?_
  refine wpAnyH_done (by kernel_rfl) ?_ _
  clear hHeld
  go_wp2_with fail
  go_ret
  exact ⟨rfl, unhide HB⟩

theorem nat_cut {x y : Int} (h : Rg x) (e : ((x.toNat : Nat) : Int) = y) : x = y := by unfold Rg at h; omega
theorem radd_K {w H M : Int} {n : Nat} (k : Wm w n H M) {a b : Int} (ha : Rg a) (hb : Rg b) : Ct 13 #[.int .i64 w, .int .u64 a, .int .u64 b] (.int .u64 ((a + b) % M)) := by
  have h := add_w (nat_K k ha) (nat_K k hb) (lt_2 (k.rg a)) (lt_2 (k.rg b)) (mod_K k _)
  refine ct_eq h ?_
  obtain ⟨a0, -⟩ := k.cut a
  obtain ⟨b0, -⟩ := k.cut b
  rw [Int.natCast_add, Int.toNat_of_nonneg a0, Int.toNat_of_nonneg b0, ← Int.add_emod]
theorem rmul_K {w H M : Int} {n : Nat} (k : Wm w n H M) {a b : Int} (ha : Rg a) (hb : Rg b) : Ct 15 #[.int .i64 w, .int .u64 a, .int .u64 b] (.int .u64 (a * b % M)) := by
  have h := mul_w (nat_K k ha) (nat_K k hb) (lt_2 (k.rg a)) (lt_2 (k.rg b)) (mod_K k _)
  refine ct_eq h ?_
  obtain ⟨a0, -⟩ := k.cut a
  obtain ⟨b0, -⟩ := k.cut b
  rw [Int.natCast_mul, Int.toNat_of_nonneg a0, Int.toNat_of_nonneg b0, ← Int.mul_emod]
theorem rsub_K {w H M : Int} {n : Nat} (k : Wm w n H M) {a b : Int} (ha : Rg a) (hb : Rg b) : Ct 14 #[.int .i64 w, .int .u64 a, .int .u64 b] (.int .u64 ((a - b) % M)) := by
  obtain ⟨-, k2, k3, -, k5, -⟩ := k.two
  obtain ⟨a0, a1⟩ := k.cut a
  obtain ⟨b0, b1⟩ := k.cut b
  have hA := nat_K k ha
  have hB := nat_K k hb
  have hM := mod_K k ((a % M).toNat + 1 * 2 ^ n - (b % M).toNat)
  have hr := lt_2 (k.rg a)
  have hle : (b % M).toNat ≤ (a % M).toNat + 1 * 2 ^ n := by omega
  have he : ((((a % M).toNat + 1 * 2 ^ n - (b % M).toNat : Nat) : Int)) % M = (a - b) % M := by
    rw [show (((a % M).toNat + 1 * 2 ^ n - (b % M).toNat : Nat) : Int) = a % M - b % M + M by omega, Int.add_emod_right, ← Int.sub_emod]
  rw [k3] at hA hB hM ⊢
  exact ct_eq (sub_w k5 hA hB hr hle hM) he
end Go.Proofs.Ytjlegmgpgfjciaa
