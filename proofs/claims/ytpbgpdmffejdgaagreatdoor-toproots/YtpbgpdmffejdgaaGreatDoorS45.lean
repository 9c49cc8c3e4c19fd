/- ToD, ToE, LawU, ToL. -/
import Derived.Test.YtpbgpdmffejdgaaGreatDoorS31
import Derived.Test.YtpbgpdmffejdgaaGreatDoorS34
import Derived.Test.YtpbgpdmffejdgaaGreatDoorS38
import Derived.Test.YtpbgpdmffejdgaaGreatDoorS41
import Derived.Test.YtpbgpdmffejdgaaGreatDoorS43
import Derived.Test.YtpbgpdmffejdgaaGreatDoorS44
namespace Go.Proofs.YtpbgpdmffejdgaaGreatDoor
open Go.RowKit
open Go.Proofs.YtpbgpdmffejdgaaGreatDoor.W

theorem square_any {m E X0 S0 : Int} (m0 : 0 ≤ m) (m1 : m < 18446744073709551616) (a0 : 0 ≤ S0) (a1 : S0 < 18446744073709551616) (h0 : -1200 ≤ E) (h1 : E ≤ 1100) (e0 : -1200 ≤ X0) (e1 : X0 ≤ 1100) {z : Int} (hz : z = E - 1) :
    Hid (∀ b W, At4 b (.bool false) (.int .i64 1) (.int .i64 X0) (.int .u64 S0) W → Calls Tryz.prog 19 #[.int .u64 m, .int .i64 z, .pointer (some ⟨b, 0, none⟩)] W fun r W' => r = .returned (.int .i64 (cmpN (m.toNat * 2 ^ (E + 5000).toNat * (m.toNat * 2 ^ (E + 5000).toNat)) (4 * (mag X0 S0 * 2 ^ Z5)))) ∧ Below W.heap.size W W') := by
  subst hz
  refine hide (fun b W HA => ?_)
  have hx : m.toNat * 2 ^ (E + 5000).toNat * (m.toNat * 2 ^ (E + 5000).toNat) = m.toNat * m.toNat * 2 ^ (2 * E + 10000).toNat := by
    rw [Nat.mul_mul_mul_comm, ← Nat.pow_add, show (E + 5000).toNat + (E + 5000).toNat = (2 * E + 10000).toNat by omega]
  have hy : 4 * (mag X0 S0 * 2 ^ Z5) = S0.toNat * 2 ^ (X0 + 10002).toNat := by
    unfold mag
    rw [Nat.mul_comm 4, Nat.mul_assoc, Nat.mul_assoc, show (4 : Nat) = 2 ^ 2 by decide, ← Nat.pow_add, ← Nat.pow_add, show (X0 + 5000).toNat + (Z5 + 2) = (X0 + 10002).toNat by unfold Z5; omega]
  obtain ⟨L, hL⟩ : ∃ L, 2 * E - 2 ≤ X0 ∧ 2 * E - 2 = L ∨ X0 < 2 * E - 2 ∧ X0 = L := by
    by_cases h : 2 * E - 2 ≤ X0
    · exact ⟨_, Or.inl ⟨h, rfl⟩⟩
    · exact ⟨_, Or.inr ⟨by omega, rfl⟩⟩
  have hpw : ∀ y d : Nat, y < 18446744073709551616 → d ≤ 10000 → y * 2 ^ d < pw 1000 := by
    intro y d hy hd
    have h1 : y * 2 ^ d < 2 ^ 64 * 2 ^ d := Nat.mul_lt_mul_of_pos_right (by omega) (Nat.two_pow_pos _)
    rw [← Nat.pow_add] at h1
    have h2 := pow_pw (k := 64 + d) (i := 1000) (by omega)
    rw [Nat.one_mul] at h2
    exact Nat.lt_trans h1 h2
  have hm2 : m.toNat < pw 2 := by unfold pw; exact (by omega : m.toNat < 18446744073709551616)
  have hs2 : S0.toNat < pw 2 := by unfold pw; exact (by omega : S0.toNat < 18446744073709551616)
  have hm4 : m.toNat * m.toNat < pw 4 := by
    have := Nat.mul_lt_mul'' (show m.toNat < 18446744073709551616 by omega) (show m.toNat < 18446744073709551616 by omega)
    unfold pw
    exact this
  have := square_w (m := m) (k := E - 1) (j := 2 * E - 2) (L := L) (d1 := (2 * E - 2 - L).toNat) (d2 := (X0 - L).toNat) b W (hide HA) (hide ⟨m0, m1⟩) (hide ⟨a0, a1⟩) (by rw [i64_id (by omega) (by omega)]; omega) (hide hL)
    (hide (fun z hz => by rw [hz, i64_id (by omega) (by omega)]; omega)) (hide (fun z hz => by rw [hz, i64_id (by omega) (by omega)]; omega)) (hide ⟨by omega, by omega, hm2, hm4, hs2, hpw _ _ (by omega) (by omega)⟩)
  rw [hx, hy]
  rw [← cmp_scal _ _ (L + 10002).toNat, Nat.mul_assoc, Nat.mul_assoc S0.toNat, ← Nat.pow_add, ← Nat.pow_add, show (2 * E - 2 - L).toNat + (L + 10002).toNat = (2 * E + 10000).toNat by omega, show (X0 - L).toNat + (L + 10002).toNat = (X0 + 10002).toNat by omega] at this
  exact this
theorem aw_r : IsR 23 8388608 256 127 1082130432 1073741824 := fun _ => isRoot_of (by unfold rootLe; decide +kernel) (by unfold rootLe; decide +kernel)
theorem aw_q : sqB 23 8388608 256 1082130432 1073741824 = 1073741824 := by decide +kernel
theorem awake_r : Ap 145 1082130432 0 1073741824 0 := by
  have h := apf_sqrt (op := 145) (a := 1082130432) (b := 0) (d := 1073741824) (Or.inl ⟨rfl, rfl, rfl, rfl, rfl, rfl⟩ : Kd 32 8 23 8388608 256 127) (by unfold Rg; omega) (by unfold Rg; omega) (by rw [show (1082130432 : Int) % (2 * (8388608 * 256)) = 1082130432 from rfl]; exact aw_r) (Or.inl ⟨rfl, rfl⟩)
  rw [show (1082130432 : Int) % (2 * (8388608 * 256)) = 1082130432 from rfl, aw_q] at h
  exact h
theorem cmp_up {x y c : Nat} {e : Int} (h : y < x ∨ y = x ∧ c % 2 = 0) (hp : (c % 2 = 0) = (e % 2 = 0)) : cmpN x y = 1 ∨ cmpN x y = 0 ∧ e % 2 = 0 := by
  rcases h with h | ⟨h, h2⟩
  · exact Or.inl (by have := cmpN_in x y; omega)
  · exact Or.inr ⟨by have := cmpN_in x y; omega, hp ▸ h2⟩
theorem cmp_dn {x y c : Nat} {e : Int} (h : ¬ (y < x ∨ y = x ∧ (c - 1) % 2 = 0)) (h0 : 0 < c) (hp : (c % 2 = 0) = (e % 2 = 0)) : cmpN x y = -1 ∨ cmpN x y = 0 ∧ e % 2 = 0 := by
  by_cases h1 : x < y
  · exact Or.inl (by have := cmpN_in x y; omega)
  · exact Or.inr ⟨by have := cmpN_in x y; omega, hp ▸ (by omega)⟩
theorem topRoots_k {w e f P Q b a op : Int} (k : Kd w e f P Q b) (hop : op - 139 = 6 ∧ w = 32 ∨ op - 153 = 6 ∧ w = 64) (a0 : 0 ≤ a) (a1 : a < 18446744073709551616) (hK : oK P Q a = 1) (hN : oN P Q a = false) :
    ∃ v X0 S0 X1 S1 u d1 d2, Ct 15 #[.int .i64 w, .int .u64 a] (.agg #[.bool false, .int .i64 1, .int .i64 X0, .int .u64 S0]) ∧ Ap op a 0 v 0 ∧ Ct 15 #[.int .i64 w, .int .u64 v] (.agg #[.bool false, .int .i64 1, .int .i64 X1, .int .u64 S1]) ∧ 0 < S1 ∧ S1 < 9007199254740992 ∧ -1074 ≤ X1 ∧ X1 ≤ 1100 ∧
      Hid (∀ b W, At4 b (.bool false) (.int .i64 1) (.int .i64 X0) (.int .u64 S0) W → Calls Tryz.prog 19 #[.int .u64 (2 * S1 + 1), .int .i64 (X1 - 1), .pointer (some ⟨b, 0, none⟩)] W fun r W' => r = .returned (.int .i64 u) ∧ Below W.heap.size W W') ∧ Hid (∀ b W, At4 b (.bool false) (.int .i64 1) (.int .i64 X0) (.int .u64 S0) W → Calls Tryz.prog 19 #[.int .u64 (2 * S1 - 1), .int .i64 (X1 - 1), .pointer (some ⟨b, 0, none⟩)] W fun r W' => r = .returned (.int .i64 d1) ∧ Below W.heap.size W W') ∧ (S1 = P → Hid (∀ b W, At4 b (.bool false) (.int .i64 1) (.int .i64 X0) (.int .u64 S0) W → Calls Tryz.prog 19 #[.int .u64 (4 * S1 - 1), .int .i64 (X1 - 2), .pointer (some ⟨b, 0, none⟩)] W fun r W' => r = .returned (.int .i64 d2) ∧ Below W.heap.size W W')) ∧ (u = 1 ∨ u = 0 ∧ S1 % 2 = 0) ∧ (S1 = P ∧ (d2 = -1 ∨ d2 = 0 ∧ S1 % 2 = 0) ∨ ¬ S1 = P ∧ (d1 = -1 ∨ d1 = 0 ∧ S1 % 2 = 0)) := by
  obtain ⟨X0, S0, o1, o2, o3⟩ := open_kd k a
  obtain ⟨l1, l2, l3⟩ := o_low k a
  obtain ⟨c, hc⟩ := isR_ex f P Q b a
  have hR := hc hK
  obtain ⟨c0, c1⟩ := root_in k hK hR
  have hH := apf_sqrt (op := op) (a := a) (b := 0) (d := c) k ⟨a0, a1⟩ ⟨by omega, by omega⟩ (by unfold IsR; rw [l1, l3]; exact hc) hop
  rw [sq_fin k (by rw [l1]; exact hK) (by rw [l2]; exact hN)] at hH
  obtain ⟨v1, v2, v3, v4⟩ := kind_code k c (by have := Nat.two_pow_pos f.toNat; omega) c1
  obtain ⟨X1, S1, q1, q2, q3⟩ := open_kd k (c : Int)
  have HO := hide (fun W => open_any a k.wd W a0 a1 o1)
  have HP := hide (fun W => open_any (c : Int) k.wd W (by omega) v4 q1)
  rw [hK, hN] at HO
  rw [v1, v2] at HP
  rw [hK] at o2
  rw [v1] at q2
  have hm : mag X1 S1 = fval f.toNat (lowN f b) c := by
    rw [q3, (oM_fin k (x := (c : Int)) ⟨by omega, by omega⟩).1, v3]
  obtain ⟨hs, hk, hk2, hcc, s0, x0, x1, s1⟩ := parts_of k q2 hm
  obtain ⟨y0, y1, t0, t2, t1⟩ := o2.in k
  have hup := mid_up k q2 hm
  obtain ⟨hd1, hd2⟩ := mid_dn k q2 hm
  have hpar := mid_par k q2 hm
  have e1 := (hR c).2 (Nat.le_refl _)
  have e2 := fun h => Nat.not_le_of_lt (show c - 1 < c by have := Nat.two_pow_pos f.toNat; omega) ((hR (c - 1)).1 h)
  unfold rootLe at e1 e2
  rw [← o3] at e1 e2
  have HU := square_any (m := 2 * S1 + 1) (E := X1) (z := X1 - 1) (X0 := X0) (S0 := S0) (by omega) (by omega) t0 (by omega) (by omega) x1 y0 y1 rfl
  have HD := square_any (m := 2 * S1 - 1) (E := X1) (z := X1 - 1) (X0 := X0) (S0 := S0) (by omega) (by omega) t0 (by omega) (by omega) x1 y0 y1 rfl
  have HE := square_any (m := 4 * S1 - 1) (E := X1 - 1) (z := X1 - 2) (X0 := X0) (S0 := S0) (by omega) (by omega) t0 (by omega) (by omega) (by omega) y0 y1 (by omega)
  rw [← hup] at HU
  refine ⟨_, X0, S0, X1, S1, _, _, _, HO, hH, HP, s0, s1, x0, x1, HU, HD, fun _ => HE, cmp_up e1 hpar, ?_⟩
  have hc0 : 0 < c := by have := Nat.two_pow_pos f.toNat; omega
  obtain ⟨hP, f0, f1, -⟩ := k.pow
  by_cases hS : S1 = P
  · have hX : 1 - b - f < X1 := by
      refine Decidable.byContradiction fun hn => ?_
      have : (X1 + 5000).toNat - lowN f b = 0 := by unfold lowN; omega
      rw [this, Nat.zero_mul] at hcc
      omega
    rw [hd2 hS hX] at e2
    exact Or.inl ⟨hS, cmp_dn e2 hc0 hpar⟩
  · rw [hd1 (fun h => hS h.1)] at e2
    exact Or.inr ⟨hS, cmp_dn e2 hc0 hpar⟩
end Go.Proofs.YtpbgpdmffejdgaaGreatDoor
namespace Go.Proofs.YtpbgpdmffejdgaaGreatDoor
open Go.RowKit

theorem topRoots_32 (W : World) (m : Mk W) (a : Int) (a0 : 0 ≤ a) (a1 : a < 18446744073709551616) : Calls Tryz.prog 8 #[.int .i64 32, .int .u64 a] W fun r W' => r = .returned (.bool true) ∧ Below W.heap.size W W' := by
  have k : Kd 32 8 23 8388608 256 127 := Or.inl ⟨rfl, rfl, rfl, rfl, rfl, rfl⟩
  by_cases hK : oK 8388608 256 a = 1 ∧ oN 8388608 256 a = false
  · obtain ⟨v, X0, S0, X1, S1, u, d1, d2, HO, H1, HP, s0, s1, x0, x1, HU, HD, HE, hu, hd⟩ := topRoots_k (op := 145) k (Or.inl ⟨rfl, rfl⟩) a0 a1 hK.1 hK.2
    refine unhide (troots_f32 awake_r HO H1 HP (hide (fun W => fields_any k.wd W)) (p2 := 2 * S1) (pm := 2 * S1 - 1) (pp := 2 * S1 + 1) (p4 := 4 * S1) (pq := 4 * S1 - 1) (x1 := X1 - 1) (x2 := X1 - 2) ?_ ?_ ?_ ?_ ?_ ?_ ?_ HU HD (fun h => HE (by simpa using h)) (by omega) hu ?_) W m
    · rw [IntKind.wrap_u64]; omega
    · rw [IntKind.wrap_u64]; omega
    · rw [IntKind.wrap_u64]; omega
    · rw [IntKind.wrap_u64]; omega
    · rw [IntKind.wrap_u64]; omega
    · exact i64_id (by omega) (by omega)
    · exact i64_id (by omega) (by omega)
    · rcases hd with ⟨h, hd⟩ | ⟨h, hd⟩
      · exact Or.inl ⟨by simpa using h, hd⟩
      · exact Or.inr ⟨by simpa using h, hd⟩
  · obtain ⟨X0, S0, o1, o2, o3⟩ := open_kd k a
    refine unhide (troots_o32 awake_r (hide (fun W => open_any a k.wd W a0 a1 o1)) ?_) W m
    by_cases h1 : oK 8388608 256 a = 1
    · exact Or.inr ⟨h1, by simpa [h1] using hK⟩
    · exact Or.inl h1
theorem topRoots_64 (W : World) (m : Mk W) (a : Int) (a0 : 0 ≤ a) (a1 : a < 18446744073709551616) : Calls Tryz.prog 8 #[.int .i64 64, .int .u64 a] W fun r W' => r = .returned (.bool true) ∧ Below W.heap.size W W' := by
  have k : Kd 64 11 52 4503599627370496 2048 1023 := Or.inr ⟨rfl, rfl, rfl, rfl, rfl, rfl⟩
  by_cases hK : oK 4503599627370496 2048 a = 1 ∧ oN 4503599627370496 2048 a = false
  · obtain ⟨v, X0, S0, X1, S1, u, d1, d2, HO, H1, HP, s0, s1, x0, x1, HU, HD, HE, hu, hd⟩ := topRoots_k (op := 159) k (Or.inr ⟨rfl, rfl⟩) a0 a1 hK.1 hK.2
    refine unhide (troots_f64 awake_r HO H1 HP (hide (fun W => fields_any k.wd W)) (p2 := 2 * S1) (pm := 2 * S1 - 1) (pp := 2 * S1 + 1) (p4 := 4 * S1) (pq := 4 * S1 - 1) (x1 := X1 - 1) (x2 := X1 - 2) ?_ ?_ ?_ ?_ ?_ ?_ ?_ HU HD (fun h => HE (by simpa using h)) (by omega) hu ?_) W m
    · rw [IntKind.wrap_u64]; omega
    · rw [IntKind.wrap_u64]; omega
    · rw [IntKind.wrap_u64]; omega
    · rw [IntKind.wrap_u64]; omega
    · rw [IntKind.wrap_u64]; omega
    · exact i64_id (by omega) (by omega)
    · exact i64_id (by omega) (by omega)
    · rcases hd with ⟨h, hd⟩ | ⟨h, hd⟩
      · exact Or.inl ⟨by simpa using h, hd⟩
      · exact Or.inr ⟨by simpa using h, hd⟩
  · obtain ⟨X0, S0, o1, o2, o3⟩ := open_kd k a
    refine unhide (troots_o64 awake_r (hide (fun W => open_any a k.wd W a0 a1 o1)) ?_) W m
    by_cases h1 : oK 4503599627370496 2048 a = 1
    · exact Or.inr ⟨h1, by simpa [h1] using hK⟩
    · exact Or.inl h1
theorem topRoots_any (W : World) (m : Mk W) (w : Int) (a : Int) (a0 : 0 ≤ a) (a1 : a < 18446744073709551616) : Calls Tryz.prog 8 #[.int .i64 w, .int .u64 a] W fun r W' => r = .returned (.bool true) ∧ Below W.heap.size W W' := by
  by_cases h1 : w = 32
  · subst h1
    exact topRoots_32 W m a a0 a1
  · by_cases h2 : w = 64
    · subst h2
      exact topRoots_64 W m a a0 a1
    · exact unhide (troots_n awake_r (by simpa using h1) (by simpa using h2)) W m
end Go.Proofs.YtpbgpdmffejdgaaGreatDoor
namespace Go.Proofs.YtpbgpdmffejdgaaGreatDoor
open Go.RowKit
open Go.Proofs.YtpbgpdmffejdgaaGreatDoor.W

set_option maxHeartbeats 4000000 in
set_option maxRecDepth 100000 in
theorem tnear_n {w a b : Int} (H0 : Ap 146 1065353216 1065353216 1073741824 0) (h1 : (w != 32) = true) (h2 : (w != 64) = true) : Cm 7 #[.int .i64 w, .int .u64 a, .int .u64 b] (.bool true) := by
  refine hide (fun W m => ?_)
  have HM := hide m
  clear m
  have HB := hide (Below.refl W.heap.size W)
  go_enter Tryz.func7, Tryz.ntmps7
  go_wp2_with fail
  refine (unhide H0 _ (unhide HM)).mono ?_
  rintro _ w1 ⟨rfl, hb⟩
  have HB := hide (bthen (unhide HB) hb)
  have HM := hide ((unhide HM).below hb)
  clear hb
  go_wp2_with fail
  go_ret
  exact ⟨rfl, unhide HB⟩
set_option maxHeartbeats 4000000 in
set_option maxRecDepth 100000 in
theorem tnear_o32 {a b K1 X1 S1 K2 X2 S2 : Int} {n1 n2 : Bool} (H0 : Ap 146 1065353216 1065353216 1073741824 0) (HO : Ct 15 #[.int .i64 32, .int .u64 a] (.agg #[.bool n1, .int .i64 K1, .int .i64 X1, .int .u64 S1])) (HP : Ct 15 #[.int .i64 32, .int .u64 b] (.agg #[.bool n2, .int .i64 K2, .int .i64 X2, .int .u64 S2])) (h : (K1 != 1) = true ∨ (K1 != 1) = false ∧ (K2 != 1) = true) : Cm 7 #[.int .i64 32, .int .u64 a, .int .u64 b] (.bool true) := by
  refine hide (fun W m => ?_)
  have HM := hide m
  clear m
  have HB := hide (Below.refl W.heap.size W)
  go_enter Tryz.func7, Tryz.ntmps7
  go_wp2_with fail
  refine (unhide H0 _ (unhide HM)).mono ?_
  rintro _ w1 ⟨rfl, hb⟩
  have HB := hide (bthen (unhide HB) hb)
  have HM := hide ((unhide HM).below hb)
  clear hb
  go_wp2_with fail
  refine (unhide HO _).mono ?_
  rintro _ w2 ⟨rfl, hb⟩
  have HB := hide (bthen (unhide HB) hb)
  have HM := hide ((unhide HM).below hb)
  clear hb
  go_wp2_with fail
  refine (unhide HP _).mono ?_
  rintro _ w3 ⟨rfl, hb⟩
  have HB := hide (bthen (unhide HB) hb)
  have HM := hide ((unhide HM).below hb)
  clear hb
  skip
  have HZ := hide (balloc (balloc (unhide HB) (.cells #[.bool n1, .int .i64 K1, .int .i64 X1, .int .u64 S1] 37)) (.cells #[.bool n2, .int .i64 K2, .int .i64 X2, .int .u64 S2] 37))
  rcases h with h | ⟨h, h'⟩
  all_goals
    go_wp2_with fail
    go_ret
    exact ⟨rfl, unhide HZ⟩
set_option maxHeartbeats 4000000 in
set_option maxRecDepth 100000 in
theorem tnear_o64 {a b K1 X1 S1 K2 X2 S2 : Int} {n1 n2 : Bool} (H0 : Ap 146 1065353216 1065353216 1073741824 0) (HO : Ct 15 #[.int .i64 64, .int .u64 a] (.agg #[.bool n1, .int .i64 K1, .int .i64 X1, .int .u64 S1])) (HP : Ct 15 #[.int .i64 64, .int .u64 b] (.agg #[.bool n2, .int .i64 K2, .int .i64 X2, .int .u64 S2])) (h : (K1 != 1) = true ∨ (K1 != 1) = false ∧ (K2 != 1) = true) : Cm 7 #[.int .i64 64, .int .u64 a, .int .u64 b] (.bool true) := by
  refine hide (fun W m => ?_)
  have HM := hide m
  clear m
  have HB := hide (Below.refl W.heap.size W)
  go_enter Tryz.func7, Tryz.ntmps7
  go_wp2_with fail
  refine (unhide H0 _ (unhide HM)).mono ?_
  rintro _ w1 ⟨rfl, hb⟩
  have HB := hide (bthen (unhide HB) hb)
  have HM := hide ((unhide HM).below hb)
  clear hb
  go_wp2_with fail
  refine (unhide HO _).mono ?_
  rintro _ w2 ⟨rfl, hb⟩
  have HB := hide (bthen (unhide HB) hb)
  have HM := hide ((unhide HM).below hb)
  clear hb
  go_wp2_with fail
  refine (unhide HP _).mono ?_
  rintro _ w3 ⟨rfl, hb⟩
  have HB := hide (bthen (unhide HB) hb)
  have HM := hide ((unhide HM).below hb)
  clear hb
  skip
  have HZ := hide (balloc (balloc (unhide HB) (.cells #[.bool n1, .int .i64 K1, .int .i64 X1, .int .u64 S1] 37)) (.cells #[.bool n2, .int .i64 K2, .int .i64 X2, .int .u64 S2] 37))
  rcases h with h | ⟨h, h'⟩
  all_goals
    go_wp2_with fail
    go_ret
    exact ⟨rfl, unhide HZ⟩
def Rq32 (a b X1 S1 X2 S2 : Int) (n1 n2 : Bool) (i : Int) : Prop := ∃ (v K X S L : Int) (n0 nn : Bool) (Z D : Nat), Ap (146 + i) a b v 0 ∧
    Hid (∀ W, Calls Tryz.prog 16 #[.int .i64 i, .agg #[.bool n1, .int .i64 1, .int .i64 X1, .int .u64 S1], .agg #[.bool n2, .int .i64 1, .int .i64 X2, .int .u64 S2]] W fun r W' => ∃ s t, r = .returned (.tuple #[.agg #[s, t, .int .i64 L], .bool nn]) ∧ IsNat W' s Z ∧ IsNat W' t D ∧ Below W.heap.size W W') ∧
    Ct 17 #[.int .i64 32, .int .u64 v] (.int .u64 v) ∧ Ct 15 #[.int .i64 32, .int .u64 v] (.agg #[.bool n0, .int .i64 K, .int .i64 X, .int .u64 S]) ∧
    (Z = 0 ∧ v = 0 ∨ Z ≠ 0 ∧ n0 = nn ∧ Hid (∀ (a a' : Option Addr) (n c n' c' : Nat) (W : World), IsNat W (.slice a n c) Z → IsNat W (.slice a' n' c') D → Calls Tryz.prog 18 #[.int .i64 32, .agg #[.bool n0, .int .i64 K, .int .i64 X, .int .u64 S], .agg #[.slice a n c, .slice a' n' c', .int .i64 L]] W fun r W' => r = .returned (.bool true) ∧ Below W.heap.size W W'))
set_option maxHeartbeats 4000000 in
set_option maxRecDepth 100000 in
theorem tnear_f32 {a b X1 S1 X2 S2 : Int} {n1 n2 : Bool} (H0 : Ap 146 1065353216 1065353216 1073741824 0) (HO : Ct 15 #[.int .i64 32, .int .u64 a] (.agg #[.bool n1, .int .i64 1, .int .i64 X1, .int .u64 S1])) (HP : Ct 15 #[.int .i64 32, .int .u64 b] (.agg #[.bool n2, .int .i64 1, .int .i64 X2, .int .u64 S2])) (HQ : Hid (∀ i : Nat, i < 4 → Rq32 a b X1 S1 X2 S2 n1 n2 (i : Int))) : Cm 7 #[.int .i64 32, .int .u64 a, .int .u64 b] (.bool true) := by
  refine hide (fun W m => ?_)
  have HM := hide m
  clear m
  have HB := hide (Below.refl W.heap.size W)
  go_enter Tryz.func7, Tryz.ntmps7
  go_wp2_with fail
  refine (unhide H0 _ (unhide HM)).mono ?_
  rintro _ w1 ⟨rfl, hb⟩
  have HB := hide (bthen (unhide HB) hb)
  have HM := hide ((unhide HM).below hb)
  clear hb
  go_wp2_with fail
  refine (unhide HO _).mono ?_
  rintro _ w2 ⟨rfl, hb⟩
  have HB := hide (bthen (unhide HB) hb)
  have HM := hide ((unhide HM).below hb)
  clear hb
  go_wp2_with fail
  refine (unhide HP _).mono ?_
  rintro _ w3 ⟨rfl, hb⟩
  have HB := hide (bthen (unhide HB) hb)
  have HM := hide ((unhide HM).below hb)
  clear hb
  skip
  have HB := hide (balloc (balloc (unhide HB) (.cells #[.bool n1, .int .i64 1, .int .i64 X1, .int .u64 S1] 37)) (.cells #[.bool n2, .int .i64 1, .int .i64 X2, .int .u64 S2] 37))
  have HM := hide ((unhide HM).below (below2 w3 (.cells #[.bool n1, .int .i64 1, .int .i64 X1, .int .u64 S1] 37) (.cells #[.bool n2, .int .i64 1, .int .i64 X2, .int .u64 S2] 37)))
  have HX := hide (at4_new2a w3 (.bool n1) (.int .i64 1) (.int .i64 X1) (.int .u64 S1) 37 (.cells #[.bool n2, .int .i64 1, .int .i64 X2, .int .u64 S2] 37))
  have HY := hide (at4_new2b w3 (.cells #[.bool n1, .int .i64 1, .int .i64 X1, .int .u64 S1] 37) (.bool n2) (.int .i64 1) (.int .i64 X2) (.int .u64 S2) 37)
  go_wp2_with fail
  go_loopw [50] (fun v50 wr => ∃ i : Nat, i ≤ 4 ∧ v50 = .int .i64 (i : Int) ∧ Below W.heap.size W wr ∧ Mk wr ∧ At4 w3.heap.size (.bool n1) (.int .i64 1) (.int .i64 X1) (.int .u64 S1) wr ∧ At4 (w3.heap.size + 1) (.bool n2) (.int .i64 1) (.int .i64 X2) (.int .u64 S2) wr) (fun v50 _ => 4 - (intOf v50).toNat)
  case atStart => exact ⟨0, by omega, rfl, unhide HB, unhide HM, unhide HX, unhide HY⟩
  case round =>
    obtain ⟨i, hi, rfl, h1, h2, h3, h4⟩ := hrel
    have HB := hide h1
    have HM := hide h2
    have HX := hide h3
    have HY := hide h4
    clear h1 h2 h3 h4
    by_cases hc : i < 4
    · have ew : IntKind.i64.wrap (146 + (i : Int)) = 146 + (i : Int) := i64_id (by omega) (by omega)
      have ei : IntKind.i64.wrap ((i : Int) + 1) = (i : Int) + 1 := i64_id (by omega) (by omega)
      obtain ⟨v, K, X, S, L, n0, nn, Z, D, HA, HE, HC, HR, hq⟩ := unhide HQ i hc
      rcases hq with ⟨hz, rfl⟩ | ⟨hz, rfl, HN⟩
      · go_wp2_with fail
        refine (unhide HA _ (unhide HM)).mono ?_
        rintro _ w5 ⟨rfl, hb⟩
        have HB := hide (bthen (unhide HB) hb)
        have HM := hide ((unhide HM).below hb)
        have HX := hide ((unhide HX).below hb)
        have HY := hide ((unhide HY).below hb)
        clear hb
        skip
        obtain ⟨g0, g1, g2, g3⟩ := unhide HX
        obtain ⟨k0, k1, k2, k3⟩ := unhide HY
        go_wp2_with fail
        clear g0 g1 g2 g3 k0 k1 k2 k3
        refine (unhide HE _).mono ?_
        rintro _ w6 ⟨s1, s2, rfl, hN, hM, hb⟩
        have HB := hide (bthen (unhide HB) hb)
        have HM := hide ((unhide HM).below hb)
        have HX := hide ((unhide HX).below hb)
        have HY := hide ((unhide HY).below hb)
        obtain ⟨a1, m1, c1, rfl⟩ := hN.slice
        obtain ⟨a2, m2, c2, rfl⟩ := hM.slice
        have hpos := hN.pos
        have N1 := hide hN
        have N2 := hide hM
        clear hb hN hM
        have HB := hide (balloc (unhide HB) (.cells #[.slice a1 m1 c1, .slice a2 m2 c2, .int .i64 L] 43))
        have HM := hide ((unhide HM).below (below1 w6 (.cells #[.slice a1 m1 c1, .slice a2 m2 c2, .int .i64 L] 43)))
        have HX := hide ((unhide HX).below (below1 w6 (.cells #[.slice a1 m1 c1, .slice a2 m2 c2, .int .i64 L] 43)))
        have HY := hide ((unhide HY).below (below1 w6 (.cells #[.slice a1 m1 c1, .slice a2 m2 c2, .int .i64 L] 43)))
        have N1 := hide ((unhide N1).below (below1 w6 (.cells #[.slice a1 m1 c1, .slice a2 m2 c2, .int .i64 L] 43)))
        have N2 := hide ((unhide N2).below (below1 w6 (.cells #[.slice a1 m1 c1, .slice a2 m2 c2, .int .i64 L] 43)))
        have HV := hide (at3v_new w6 (.slice a1 m1 c1) (.slice a2 m2 c2) (.int .i64 L) 43)
        go_wp2_with fail
        refine (unhide HC _).mono ?_
        rintro _ w7 ⟨rfl, hb⟩
        have HB := hide (bthen (unhide HB) hb)
        have HM := hide ((unhide HM).below hb)
        have HX := hide ((unhide HX).below hb)
        have HY := hide ((unhide HY).below hb)
        have N1 := hide ((unhide N1).below hb)
        have N2 := hide ((unhide N2).below hb)
        have HV := hide ((unhide HV).below hb)
        clear hb
        go_wp2_with fail
        refine (unhide HR _).mono ?_
        rintro _ w8 ⟨rfl, hb⟩
        have HB := hide (bthen (unhide HB) hb)
        have HM := hide ((unhide HM).below hb)
        have HX := hide ((unhide HX).below hb)
        have HY := hide ((unhide HY).below hb)
        have N1 := hide ((unhide N1).below hb)
        have N2 := hide ((unhide N2).below hb)
        have HV := hide ((unhide HV).below hb)
        clear hb
        skip
        have HB := hide (balloc (unhide HB) (.cells #[.bool n0, .int .i64 K, .int .i64 X, .int .u64 S] 37))
        have HM := hide ((unhide HM).below (below1 w8 (.cells #[.bool n0, .int .i64 K, .int .i64 X, .int .u64 S] 37)))
        have HX := hide ((unhide HX).below (below1 w8 (.cells #[.bool n0, .int .i64 K, .int .i64 X, .int .u64 S] 37)))
        have HY := hide ((unhide HY).below (below1 w8 (.cells #[.bool n0, .int .i64 K, .int .i64 X, .int .u64 S] 37)))
        have N1 := hide ((unhide N1).below (below1 w8 (.cells #[.bool n0, .int .i64 K, .int .i64 X, .int .u64 S] 37)))
        have N2 := hide ((unhide N2).below (below1 w8 (.cells #[.bool n0, .int .i64 K, .int .i64 X, .int .u64 S] 37)))
        have HV := hide ((unhide HV).below (below1 w8 (.cells #[.bool n0, .int .i64 K, .int .i64 X, .int .u64 S] 37)))
        have HW := hide (at4_new w8 (.bool n0) (.int .i64 K) (.int .i64 X) (.int .u64 S) 37)
        obtain ⟨g0, g1, g2⟩ := unhide HV
        obtain ⟨k0, k1, k2, k3⟩ := unhide HW
        have HZ := HB
        have hm : ((m1 : Int) == 0) = true := by
          have : ¬ 0 < m1 := fun h => (hpos ▸ h : Z ≠ 0) hz
          simp
          omega
        clear hz hpos
        go_wp2_with fail
        exact ⟨⟨i + 1, by omega, by go_num, unhide HZ, unhide HM, unhide HX, unhide HY⟩, by simp [intOf]; omega⟩
      · go_wp2_with fail
        refine (unhide HA _ (unhide HM)).mono ?_
        rintro _ w5 ⟨rfl, hb⟩
        have HB := hide (bthen (unhide HB) hb)
        have HM := hide ((unhide HM).below hb)
        have HX := hide ((unhide HX).below hb)
        have HY := hide ((unhide HY).below hb)
        clear hb
        skip
        obtain ⟨g0, g1, g2, g3⟩ := unhide HX
        obtain ⟨k0, k1, k2, k3⟩ := unhide HY
        go_wp2_with fail
        clear g0 g1 g2 g3 k0 k1 k2 k3
        refine (unhide HE _).mono ?_
        rintro _ w6 ⟨s1, s2, rfl, hN, hM, hb⟩
        have HB := hide (bthen (unhide HB) hb)
        have HM := hide ((unhide HM).below hb)
        have HX := hide ((unhide HX).below hb)
        have HY := hide ((unhide HY).below hb)
        obtain ⟨a1, m1, c1, rfl⟩ := hN.slice
        obtain ⟨a2, m2, c2, rfl⟩ := hM.slice
        have hpos := hN.pos
        have N1 := hide hN
        have N2 := hide hM
        clear hb hN hM
        have HB := hide (balloc (unhide HB) (.cells #[.slice a1 m1 c1, .slice a2 m2 c2, .int .i64 L] 43))
        have HM := hide ((unhide HM).below (below1 w6 (.cells #[.slice a1 m1 c1, .slice a2 m2 c2, .int .i64 L] 43)))
        have HX := hide ((unhide HX).below (below1 w6 (.cells #[.slice a1 m1 c1, .slice a2 m2 c2, .int .i64 L] 43)))
        have HY := hide ((unhide HY).below (below1 w6 (.cells #[.slice a1 m1 c1, .slice a2 m2 c2, .int .i64 L] 43)))
        have N1 := hide ((unhide N1).below (below1 w6 (.cells #[.slice a1 m1 c1, .slice a2 m2 c2, .int .i64 L] 43)))
        have N2 := hide ((unhide N2).below (below1 w6 (.cells #[.slice a1 m1 c1, .slice a2 m2 c2, .int .i64 L] 43)))
        have HV := hide (at3v_new w6 (.slice a1 m1 c1) (.slice a2 m2 c2) (.int .i64 L) 43)
        go_wp2_with fail
        refine (unhide HC _).mono ?_
        rintro _ w7 ⟨rfl, hb⟩
        have HB := hide (bthen (unhide HB) hb)
        have HM := hide ((unhide HM).below hb)
        have HX := hide ((unhide HX).below hb)
        have HY := hide ((unhide HY).below hb)
        have N1 := hide ((unhide N1).below hb)
        have N2 := hide ((unhide N2).below hb)
        have HV := hide ((unhide HV).below hb)
        clear hb
        go_wp2_with fail
        refine (unhide HR _).mono ?_
        rintro _ w8 ⟨rfl, hb⟩
        have HB := hide (bthen (unhide HB) hb)
        have HM := hide ((unhide HM).below hb)
        have HX := hide ((unhide HX).below hb)
        have HY := hide ((unhide HY).below hb)
        have N1 := hide ((unhide N1).below hb)
        have N2 := hide ((unhide N2).below hb)
        have HV := hide ((unhide HV).below hb)
        clear hb
        skip
        have HB := hide (balloc (unhide HB) (.cells #[.bool n0, .int .i64 K, .int .i64 X, .int .u64 S] 37))
        have HM := hide ((unhide HM).below (below1 w8 (.cells #[.bool n0, .int .i64 K, .int .i64 X, .int .u64 S] 37)))
        have HX := hide ((unhide HX).below (below1 w8 (.cells #[.bool n0, .int .i64 K, .int .i64 X, .int .u64 S] 37)))
        have HY := hide ((unhide HY).below (below1 w8 (.cells #[.bool n0, .int .i64 K, .int .i64 X, .int .u64 S] 37)))
        have N1 := hide ((unhide N1).below (below1 w8 (.cells #[.bool n0, .int .i64 K, .int .i64 X, .int .u64 S] 37)))
        have N2 := hide ((unhide N2).below (below1 w8 (.cells #[.bool n0, .int .i64 K, .int .i64 X, .int .u64 S] 37)))
        have HV := hide ((unhide HV).below (below1 w8 (.cells #[.bool n0, .int .i64 K, .int .i64 X, .int .u64 S] 37)))
        have HW := hide (at4_new w8 (.bool n0) (.int .i64 K) (.int .i64 X) (.int .u64 S) 37)
        obtain ⟨g0, g1, g2⟩ := unhide HV
        obtain ⟨k0, k1, k2, k3⟩ := unhide HW
        have HZ := HB
        have hm : ((m1 : Int) == 0) = false := by
          have : 0 < m1 := by rw [hpos]; exact hz
          simp
          omega
        clear hz hpos
        go_wp2_with fail
        clear g0 g1 g2 k0 k1 k2 k3
        refine (unhide HN _ _ _ _ _ _ _ (unhide N1) (unhide N2)).mono ?_
        rintro _ w9 ⟨rfl, hb⟩
        have HZ := hide (bthen (unhide HZ) hb)
        have HM := hide ((unhide HM).below hb)
        have HX := hide ((unhide HX).below hb)
        have HY := hide ((unhide HY).below hb)
        clear hb
        go_wp2_with fail
        exact ⟨⟨i + 1, by omega, by go_num, unhide HZ, unhide HM, unhide HX, unhide HY⟩, by simp [intOf]; omega⟩
    · have hin : i = 4 := by omega
      subst hin
      go_wp2_with fail
      go_ret
      exact ⟨rfl, unhide HB⟩
def Rq64 (a b X1 S1 X2 S2 : Int) (n1 n2 : Bool) (i : Int) : Prop := ∃ (v K X S L : Int) (n0 nn : Bool) (Z D : Nat), Ap (160 + i) a b v 0 ∧
    Hid (∀ W, Calls Tryz.prog 16 #[.int .i64 i, .agg #[.bool n1, .int .i64 1, .int .i64 X1, .int .u64 S1], .agg #[.bool n2, .int .i64 1, .int .i64 X2, .int .u64 S2]] W fun r W' => ∃ s t, r = .returned (.tuple #[.agg #[s, t, .int .i64 L], .bool nn]) ∧ IsNat W' s Z ∧ IsNat W' t D ∧ Below W.heap.size W W') ∧
    Ct 17 #[.int .i64 64, .int .u64 v] (.int .u64 v) ∧ Ct 15 #[.int .i64 64, .int .u64 v] (.agg #[.bool n0, .int .i64 K, .int .i64 X, .int .u64 S]) ∧
    (Z = 0 ∧ v = 0 ∨ Z ≠ 0 ∧ n0 = nn ∧ Hid (∀ (a a' : Option Addr) (n c n' c' : Nat) (W : World), IsNat W (.slice a n c) Z → IsNat W (.slice a' n' c') D → Calls Tryz.prog 18 #[.int .i64 64, .agg #[.bool n0, .int .i64 K, .int .i64 X, .int .u64 S], .agg #[.slice a n c, .slice a' n' c', .int .i64 L]] W fun r W' => r = .returned (.bool true) ∧ Below W.heap.size W W'))
set_option maxHeartbeats 4000000 in
set_option maxRecDepth 100000 in
theorem tnear_f64 {a b X1 S1 X2 S2 : Int} {n1 n2 : Bool} (H0 : Ap 146 1065353216 1065353216 1073741824 0) (HO : Ct 15 #[.int .i64 64, .int .u64 a] (.agg #[.bool n1, .int .i64 1, .int .i64 X1, .int .u64 S1])) (HP : Ct 15 #[.int .i64 64, .int .u64 b] (.agg #[.bool n2, .int .i64 1, .int .i64 X2, .int .u64 S2])) (HQ : Hid (∀ i : Nat, i < 4 → Rq64 a b X1 S1 X2 S2 n1 n2 (i : Int))) : Cm 7 #[.int .i64 64, .int .u64 a, .int .u64 b] (.bool true) := by
  refine hide (fun W m => ?_)
  have HM := hide m
  clear m
  have HB := hide (Below.refl W.heap.size W)
  go_enter Tryz.func7, Tryz.ntmps7
  go_wp2_with fail
  refine (unhide H0 _ (unhide HM)).mono ?_
  rintro _ w1 ⟨rfl, hb⟩
  have HB := hide (bthen (unhide HB) hb)
  have HM := hide ((unhide HM).below hb)
  clear hb
  go_wp2_with fail
  refine (unhide HO _).mono ?_
  rintro _ w2 ⟨rfl, hb⟩
  have HB := hide (bthen (unhide HB) hb)
  have HM := hide ((unhide HM).below hb)
  clear hb
  go_wp2_with fail
  refine (unhide HP _).mono ?_
  rintro _ w3 ⟨rfl, hb⟩
  have HB := hide (bthen (unhide HB) hb)
  have HM := hide ((unhide HM).below hb)
  clear hb
  skip
  have HB := hide (balloc (balloc (unhide HB) (.cells #[.bool n1, .int .i64 1, .int .i64 X1, .int .u64 S1] 37)) (.cells #[.bool n2, .int .i64 1, .int .i64 X2, .int .u64 S2] 37))
  have HM := hide ((unhide HM).below (below2 w3 (.cells #[.bool n1, .int .i64 1, .int .i64 X1, .int .u64 S1] 37) (.cells #[.bool n2, .int .i64 1, .int .i64 X2, .int .u64 S2] 37)))
  have HX := hide (at4_new2a w3 (.bool n1) (.int .i64 1) (.int .i64 X1) (.int .u64 S1) 37 (.cells #[.bool n2, .int .i64 1, .int .i64 X2, .int .u64 S2] 37))
  have HY := hide (at4_new2b w3 (.cells #[.bool n1, .int .i64 1, .int .i64 X1, .int .u64 S1] 37) (.bool n2) (.int .i64 1) (.int .i64 X2) (.int .u64 S2) 37)
  go_wp2_with fail
  go_loopw [50] (fun v50 wr => ∃ i : Nat, i ≤ 4 ∧ v50 = .int .i64 (i : Int) ∧ Below W.heap.size W wr ∧ Mk wr ∧ At4 w3.heap.size (.bool n1) (.int .i64 1) (.int .i64 X1) (.int .u64 S1) wr ∧ At4 (w3.heap.size + 1) (.bool n2) (.int .i64 1) (.int .i64 X2) (.int .u64 S2) wr) (fun v50 _ => 4 - (intOf v50).toNat)
  case atStart => exact ⟨0, by omega, rfl, unhide HB, unhide HM, unhide HX, unhide HY⟩
  case round =>
    obtain ⟨i, hi, rfl, h1, h2, h3, h4⟩ := hrel
    have HB := hide h1
    have HM := hide h2
    have HX := hide h3
    have HY := hide h4
    clear h1 h2 h3 h4
    by_cases hc : i < 4
    · have ew : IntKind.i64.wrap (160 + (i : Int)) = 160 + (i : Int) := i64_id (by omega) (by omega)
      have ei : IntKind.i64.wrap ((i : Int) + 1) = (i : Int) + 1 := i64_id (by omega) (by omega)
      obtain ⟨v, K, X, S, L, n0, nn, Z, D, HA, HE, HC, HR, hq⟩ := unhide HQ i hc
      rcases hq with ⟨hz, rfl⟩ | ⟨hz, rfl, HN⟩
      · go_wp2_with fail
        refine (unhide HA _ (unhide HM)).mono ?_
        rintro _ w5 ⟨rfl, hb⟩
        have HB := hide (bthen (unhide HB) hb)
        have HM := hide ((unhide HM).below hb)
        have HX := hide ((unhide HX).below hb)
        have HY := hide ((unhide HY).below hb)
        clear hb
        skip
        obtain ⟨g0, g1, g2, g3⟩ := unhide HX
        obtain ⟨k0, k1, k2, k3⟩ := unhide HY
        go_wp2_with fail
        clear g0 g1 g2 g3 k0 k1 k2 k3
        refine (unhide HE _).mono ?_
        rintro _ w6 ⟨s1, s2, rfl, hN, hM, hb⟩
        have HB := hide (bthen (unhide HB) hb)
        have HM := hide ((unhide HM).below hb)
        have HX := hide ((unhide HX).below hb)
        have HY := hide ((unhide HY).below hb)
        obtain ⟨a1, m1, c1, rfl⟩ := hN.slice
        obtain ⟨a2, m2, c2, rfl⟩ := hM.slice
        have hpos := hN.pos
        have N1 := hide hN
        have N2 := hide hM
        clear hb hN hM
        have HB := hide (balloc (unhide HB) (.cells #[.slice a1 m1 c1, .slice a2 m2 c2, .int .i64 L] 43))
        have HM := hide ((unhide HM).below (below1 w6 (.cells #[.slice a1 m1 c1, .slice a2 m2 c2, .int .i64 L] 43)))
        have HX := hide ((unhide HX).below (below1 w6 (.cells #[.slice a1 m1 c1, .slice a2 m2 c2, .int .i64 L] 43)))
        have HY := hide ((unhide HY).below (below1 w6 (.cells #[.slice a1 m1 c1, .slice a2 m2 c2, .int .i64 L] 43)))
        have N1 := hide ((unhide N1).below (below1 w6 (.cells #[.slice a1 m1 c1, .slice a2 m2 c2, .int .i64 L] 43)))
        have N2 := hide ((unhide N2).below (below1 w6 (.cells #[.slice a1 m1 c1, .slice a2 m2 c2, .int .i64 L] 43)))
        have HV := hide (at3v_new w6 (.slice a1 m1 c1) (.slice a2 m2 c2) (.int .i64 L) 43)
        go_wp2_with fail
        refine (unhide HC _).mono ?_
        rintro _ w7 ⟨rfl, hb⟩
        have HB := hide (bthen (unhide HB) hb)
        have HM := hide ((unhide HM).below hb)
        have HX := hide ((unhide HX).below hb)
        have HY := hide ((unhide HY).below hb)
        have N1 := hide ((unhide N1).below hb)
        have N2 := hide ((unhide N2).below hb)
        have HV := hide ((unhide HV).below hb)
        clear hb
        go_wp2_with fail
        refine (unhide HR _).mono ?_
        rintro _ w8 ⟨rfl, hb⟩
        have HB := hide (bthen (unhide HB) hb)
        have HM := hide ((unhide HM).below hb)
        have HX := hide ((unhide HX).below hb)
        have HY := hide ((unhide HY).below hb)
        have N1 := hide ((unhide N1).below hb)
        have N2 := hide ((unhide N2).below hb)
        have HV := hide ((unhide HV).below hb)
        clear hb
        skip
        have HB := hide (balloc (unhide HB) (.cells #[.bool n0, .int .i64 K, .int .i64 X, .int .u64 S] 37))
        have HM := hide ((unhide HM).below (below1 w8 (.cells #[.bool n0, .int .i64 K, .int .i64 X, .int .u64 S] 37)))
        have HX := hide ((unhide HX).below (below1 w8 (.cells #[.bool n0, .int .i64 K, .int .i64 X, .int .u64 S] 37)))
        have HY := hide ((unhide HY).below (below1 w8 (.cells #[.bool n0, .int .i64 K, .int .i64 X, .int .u64 S] 37)))
        have N1 := hide ((unhide N1).below (below1 w8 (.cells #[.bool n0, .int .i64 K, .int .i64 X, .int .u64 S] 37)))
        have N2 := hide ((unhide N2).below (below1 w8 (.cells #[.bool n0, .int .i64 K, .int .i64 X, .int .u64 S] 37)))
        have HV := hide ((unhide HV).below (below1 w8 (.cells #[.bool n0, .int .i64 K, .int .i64 X, .int .u64 S] 37)))
        have HW := hide (at4_new w8 (.bool n0) (.int .i64 K) (.int .i64 X) (.int .u64 S) 37)
        obtain ⟨g0, g1, g2⟩ := unhide HV
        obtain ⟨k0, k1, k2, k3⟩ := unhide HW
        have HZ := HB
        have hm : ((m1 : Int) == 0) = true := by
          have : ¬ 0 < m1 := fun h => (hpos ▸ h : Z ≠ 0) hz
          simp
          omega
        clear hz hpos
        go_wp2_with fail
        exact ⟨⟨i + 1, by omega, by go_num, unhide HZ, unhide HM, unhide HX, unhide HY⟩, by simp [intOf]; omega⟩
      · go_wp2_with fail
        refine (unhide HA _ (unhide HM)).mono ?_
        rintro _ w5 ⟨rfl, hb⟩
        have HB := hide (bthen (unhide HB) hb)
        have HM := hide ((unhide HM).below hb)
        have HX := hide ((unhide HX).below hb)
        have HY := hide ((unhide HY).below hb)
        clear hb
        skip
        obtain ⟨g0, g1, g2, g3⟩ := unhide HX
        obtain ⟨k0, k1, k2, k3⟩ := unhide HY
        go_wp2_with fail
        clear g0 g1 g2 g3 k0 k1 k2 k3
        refine (unhide HE _).mono ?_
        rintro _ w6 ⟨s1, s2, rfl, hN, hM, hb⟩
        have HB := hide (bthen (unhide HB) hb)
        have HM := hide ((unhide HM).below hb)
        have HX := hide ((unhide HX).below hb)
        have HY := hide ((unhide HY).below hb)
        obtain ⟨a1, m1, c1, rfl⟩ := hN.slice
        obtain ⟨a2, m2, c2, rfl⟩ := hM.slice
        have hpos := hN.pos
        have N1 := hide hN
        have N2 := hide hM
        clear hb hN hM
        have HB := hide (balloc (unhide HB) (.cells #[.slice a1 m1 c1, .slice a2 m2 c2, .int .i64 L] 43))
        have HM := hide ((unhide HM).below (below1 w6 (.cells #[.slice a1 m1 c1, .slice a2 m2 c2, .int .i64 L] 43)))
        have HX := hide ((unhide HX).below (below1 w6 (.cells #[.slice a1 m1 c1, .slice a2 m2 c2, .int .i64 L] 43)))
        have HY := hide ((unhide HY).below (below1 w6 (.cells #[.slice a1 m1 c1, .slice a2 m2 c2, .int .i64 L] 43)))
        have N1 := hide ((unhide N1).below (below1 w6 (.cells #[.slice a1 m1 c1, .slice a2 m2 c2, .int .i64 L] 43)))
        have N2 := hide ((unhide N2).below (below1 w6 (.cells #[.slice a1 m1 c1, .slice a2 m2 c2, .int .i64 L] 43)))
        have HV := hide (at3v_new w6 (.slice a1 m1 c1) (.slice a2 m2 c2) (.int .i64 L) 43)
        go_wp2_with fail
        refine (unhide HC _).mono ?_
        rintro _ w7 ⟨rfl, hb⟩
        have HB := hide (bthen (unhide HB) hb)
        have HM := hide ((unhide HM).below hb)
        have HX := hide ((unhide HX).below hb)
        have HY := hide ((unhide HY).below hb)
        have N1 := hide ((unhide N1).below hb)
        have N2 := hide ((unhide N2).below hb)
        have HV := hide ((unhide HV).below hb)
        clear hb
        go_wp2_with fail
        refine (unhide HR _).mono ?_
        rintro _ w8 ⟨rfl, hb⟩
        have HB := hide (bthen (unhide HB) hb)
        have HM := hide ((unhide HM).below hb)
        have HX := hide ((unhide HX).below hb)
        have HY := hide ((unhide HY).below hb)
        have N1 := hide ((unhide N1).below hb)
        have N2 := hide ((unhide N2).below hb)
        have HV := hide ((unhide HV).below hb)
        clear hb
        skip
        have HB := hide (balloc (unhide HB) (.cells #[.bool n0, .int .i64 K, .int .i64 X, .int .u64 S] 37))
        have HM := hide ((unhide HM).below (below1 w8 (.cells #[.bool n0, .int .i64 K, .int .i64 X, .int .u64 S] 37)))
        have HX := hide ((unhide HX).below (below1 w8 (.cells #[.bool n0, .int .i64 K, .int .i64 X, .int .u64 S] 37)))
        have HY := hide ((unhide HY).below (below1 w8 (.cells #[.bool n0, .int .i64 K, .int .i64 X, .int .u64 S] 37)))
        have N1 := hide ((unhide N1).below (below1 w8 (.cells #[.bool n0, .int .i64 K, .int .i64 X, .int .u64 S] 37)))
        have N2 := hide ((unhide N2).below (below1 w8 (.cells #[.bool n0, .int .i64 K, .int .i64 X, .int .u64 S] 37)))
        have HV := hide ((unhide HV).below (below1 w8 (.cells #[.bool n0, .int .i64 K, .int .i64 X, .int .u64 S] 37)))
        have HW := hide (at4_new w8 (.bool n0) (.int .i64 K) (.int .i64 X) (.int .u64 S) 37)
        obtain ⟨g0, g1, g2⟩ := unhide HV
        obtain ⟨k0, k1, k2, k3⟩ := unhide HW
        have HZ := HB
        have hm : ((m1 : Int) == 0) = false := by
          have : 0 < m1 := by rw [hpos]; exact hz
          simp
          omega
        clear hz hpos
        go_wp2_with fail
        clear g0 g1 g2 k0 k1 k2 k3
        refine (unhide HN _ _ _ _ _ _ _ (unhide N1) (unhide N2)).mono ?_
        rintro _ w9 ⟨rfl, hb⟩
        have HZ := hide (bthen (unhide HZ) hb)
        have HM := hide ((unhide HM).below hb)
        have HX := hide ((unhide HX).below hb)
        have HY := hide ((unhide HY).below hb)
        clear hb
        go_wp2_with fail
        exact ⟨⟨i + 1, by omega, by go_num, unhide HZ, unhide HM, unhide HX, unhide HY⟩, by simp [intOf]; omega⟩
    · have hin : i = 4 := by omega
      subst hin
      go_wp2_with fail
      go_ret
      exact ⟨rfl, unhide HB⟩
end Go.Proofs.YtpbgpdmffejdgaaGreatDoor
namespace Go.Proofs.YtpbgpdmffejdgaaGreatDoor
open Go.RowKit

theorem aw_s : addB 23 8388608 256 127 1065353216 1065353216 = 1073741824 := by decide +kernel
theorem awake_s : Ap 146 1065353216 1065353216 1073741824 0 := by
  have h3 := apf_add (op := 146) (a := 1065353216) (b := 1065353216) (Or.inl ⟨rfl, rfl, rfl, rfl, rfl, rfl⟩ : Kd 32 8 23 8388608 256 127) (by unfold Rg; omega) (by unfold Rg; omega) (Or.inl ⟨rfl, rfl⟩)
  rw [show (1065353216 : Int) % (2 * (8388608 * 256)) = 1065353216 from rfl, aw_s] at h3
  exact h3
theorem topNearest_32 (W : World) (m : Mk W) (a : Int) (a0 : 0 ≤ a) (a1 : a < 18446744073709551616) (b : Int) (b0 : 0 ≤ b) (b1 : b < 18446744073709551616) : Calls Tryz.prog 7 #[.int .i64 32, .int .u64 a, .int .u64 b] W fun r W' => r = .returned (.bool true) ∧ Below W.heap.size W W' := by
  have k : Kd 32 8 23 8388608 256 127 := Or.inl ⟨rfl, rfl, rfl, rfl, rfl, rfl⟩
  obtain ⟨X1, S1, o1, o2, o3⟩ := open_kd k a
  obtain ⟨X2, S2, u1, u2, u3⟩ := open_kd k b
  have HO := hide (fun W => open_any a k.wd W a0 a1 o1)
  have HP := hide (fun W => open_any b k.wd W b0 b1 u1)
  by_cases h1 : oK 8388608 256 a = 1
  · by_cases h2 : oK 8388608 256 b = 1
    · rw [h1] at HO o2
      rw [h2] at HP u2
      exact unhide (tnear_f32 awake_s HO HP (hide (round_any k ⟨a0, a1⟩ ⟨b0, b1⟩ o2 u2 h1 h2 o3 u3 rfl rfl 146 (Or.inl ⟨rfl, rfl⟩)))) W m
    · exact unhide (tnear_o32 awake_s HO HP (Or.inr ⟨by simp [h1], by simpa using h2⟩)) W m
  · exact unhide (tnear_o32 awake_s HO HP (Or.inl (by simpa using h1))) W m
theorem topNearest_64 (W : World) (m : Mk W) (a : Int) (a0 : 0 ≤ a) (a1 : a < 18446744073709551616) (b : Int) (b0 : 0 ≤ b) (b1 : b < 18446744073709551616) : Calls Tryz.prog 7 #[.int .i64 64, .int .u64 a, .int .u64 b] W fun r W' => r = .returned (.bool true) ∧ Below W.heap.size W W' := by
  have k : Kd 64 11 52 4503599627370496 2048 1023 := Or.inr ⟨rfl, rfl, rfl, rfl, rfl, rfl⟩
  obtain ⟨X1, S1, o1, o2, o3⟩ := open_kd k a
  obtain ⟨X2, S2, u1, u2, u3⟩ := open_kd k b
  have HO := hide (fun W => open_any a k.wd W a0 a1 o1)
  have HP := hide (fun W => open_any b k.wd W b0 b1 u1)
  by_cases h1 : oK 4503599627370496 2048 a = 1
  · by_cases h2 : oK 4503599627370496 2048 b = 1
    · rw [h1] at HO o2
      rw [h2] at HP u2
      exact unhide (tnear_f64 awake_s HO HP (hide (round_any k ⟨a0, a1⟩ ⟨b0, b1⟩ o2 u2 h1 h2 o3 u3 rfl rfl 160 (Or.inr ⟨rfl, rfl⟩)))) W m
    · exact unhide (tnear_o64 awake_s HO HP (Or.inr ⟨by simp [h1], by simpa using h2⟩)) W m
  · exact unhide (tnear_o64 awake_s HO HP (Or.inl (by simpa using h1))) W m
theorem topNearest_any (W : World) (m : Mk W) (w : Int) (a : Int) (a0 : 0 ≤ a) (a1 : a < 18446744073709551616) (b : Int) (b0 : 0 ≤ b) (b1 : b < 18446744073709551616) : Calls Tryz.prog 7 #[.int .i64 w, .int .u64 a, .int .u64 b] W fun r W' => r = .returned (.bool true) ∧ Below W.heap.size W W' := by
  by_cases h1 : w = 32
  · subst h1
    exact topNearest_32 W m a a0 a1 b b0 b1
  · by_cases h2 : w = 64
    · subst h2
      exact topNearest_64 W m a a0 a1 b b0 b1
    · exact unhide (tnear_n awake_s (by simpa using h1) (by simpa using h2)) W m
end Go.Proofs.YtpbgpdmffejdgaaGreatDoor
