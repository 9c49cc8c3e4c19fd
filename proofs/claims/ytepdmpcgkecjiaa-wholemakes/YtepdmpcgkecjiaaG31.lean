/- WhG. -/
import Derived.Test.YtepdmpcgkecjiaaG30
namespace Go.Proofs.Ytepdmpcgkecjiaa
open Go.RowKit
open Go.Proofs.Ytepdmpcgkecjiaa.W

set_option maxRecDepth 100000 in
set_option maxHeartbeats 2000000 in
theorem rmake_1u {w x K1 X1 S1 V h : Int} (W : World) (HO : Hid (∀ W, Calls Try.prog 14 #[.int .i64 w, .int .u64 x] W fun r W' => r = .returned (.agg #[.bool false, .int .i64 K1, .int .i64 X1, .int .u64 S1]) ∧ Below W.heap.size W W')) (z : Nat) (k3 : (K1 == 3) = false) (k1 : (K1 != 1) = false) (HD : Hid (∀ W, Calls Try.prog 15 #[.agg #[.bool false, .int .i64 K1, .int .i64 X1, .int .u64 S1]] W fun e w' => ∃ s, e = .returned (.tuple #[.agg #[s], .int .i64 h, .bool true]) ∧ IsNat w' s z ∧ Below W.heap.size W w')) (hz : Hid (z < pw 100))  (HE : Hid (∀ (a : Option Addr) (m c : Nat) (W : World), IsNat W (.slice a m c) (z + 1) → Calls Try.prog 35 #[.int .i64 w, .bool false, .agg #[.slice a m c], .int .i64 0] W fun r W' => r = .returned (.int .u64 V) ∧ Below W.heap.size W W')) :
    Calls Try.prog 12 #[.int .i64 w, .int .u64 x, .int .i64 1] W fun r W' => r = .returned (.int .u64 V) ∧ Below W.heap.size W W' := by
  go_enter Try.func12, Try.ntmps12
  go_wp2_with fail
  refine (unhide HO _).mono ?_
  rintro _ w1 ⟨rfl, hb⟩
  have HB := hide (balloc hb (.cells #[.bool false, .int .i64 K1, .int .i64 X1, .int .u64 S1] 30))
  have HA := hide (at4_new w1 (.bool false) (.int .i64 K1) (.int .i64 X1) (.int .u64 S1) 30)
  have HZ0 := hide hb.size
  clear hb
  obtain ⟨c0, c1, c2, c3⟩ := unhide HA
  go_wp2_with fail
  clear c0 c1 c2 c3
  refine (unhide HD _).mono ?_
  rintro _ w2 ⟨s2, rfl, hN, hb⟩
  obtain ⟨a2, m2, c2, rfl⟩ := hN.slice
  have HB := hide (balloc (bthen (unhide HB) hb) (.cells #[.slice a2 m2 c2] 33))
  have HA := hide (((unhide HA).below hb).below (below1 _ (.cells #[.slice a2 m2 c2] 33)))
  have HN := hide (hN.below (below1 _ (.cells #[.slice a2 m2 c2] 33)))
  have HM : Hid ((w2.alloc (.cells #[.slice a2 m2 c2] 33)).cell? ⟨w2.heap.size, 0, none⟩ = some (.slice a2 m2 c2) ∧ (w2.alloc (.cells #[.slice a2 m2 c2] 33)).frozen? ⟨w2.heap.size, 0, none⟩ = false) := ⟨by simp [go_sem], by simp [go_sem]⟩
  have HZ : Hid (W.heap.size ≤ w2.heap.size ∧ w1.heap.size < w2.heap.size) := ⟨by have := unhide HZ0; have := hb.size; simp at this; omega, by have := hb.size; simp at this; omega⟩
  clear hb hN
  obtain ⟨c0, c1, c2', c3⟩ := unhide HA
  obtain ⟨cn, fn⟩ := unhide HM
  go_wp2_with fail
  clear c0 c1 c2' c3 cn fn
  generalize w2.alloc (.cells #[.slice a2 m2 c2] 33) = w2' at *
  generalize w2' = wq at *
  have HB := hide (unhide HB).drew
  have HA := hide ((unhide HA).below ((Below.refl _ _).drew))
  have HN := hide ((unhide HN).below ((Below.refl _ _).drew))
  have HM := hide ((stable_var _ _) _ _ (unhide HM) ((Below.refl _ _).drew))
  have cn0 := (unhide HM).1
  go_region_with (first
    | (go_at_call 34; refine (refOf_1 _).mono ?_; rintro e w8 ⟨s8, rfl, hN8, hbl⟩; obtain ⟨a8, m8, c8, rfl⟩ := hN8.slice; have H8 := hide hN8; have HN8 := hide ((unhide HN).below hbl); have HM8 := hide ((stable_var _ _) _ _ (unhide HM) hbl); have HA8 := hide ((unhide HA).below hbl); have HB8 := hide (bthen (unhide HB) hbl); clear hbl hN8; have cn8 := (unhide HM8).1)
    | (go_at_call 33; refine (refAdd_any _ _ _ _ _ _ _ _ _ (unhide HN8) (unhide H8) (Nat.le_trans ((unhide HN8).short (unhide hz)) (by omega)) (nat_one (unhide H8))).mono ?_; rintro e w9 ⟨s9, rfl, hN9, hbl⟩; obtain ⟨a9, m9, c9, rfl⟩ := hN9.slice; have H9 := hide hN9; have HM9 := hide ((stable_var _ _) _ _ (unhide HM8) hbl); have HA9 := hide ((unhide HA8).below hbl); have HB9 := hide (bthen (unhide HB8) hbl); clear hbl hN9 cn8; have cn9 := (unhide HM9).1; have fn9 := (unhide HM9).2))
  all_goals
    have H9 := hide ((unhide H9).store cn9 (.slice a9 m9 c9))
    have HB := hide (bset (unhide HB9) w2.heap.size (unhide HZ).1 0 (.slice a9 m9 c9))
    have HA := hide (At4.set (unhide HA9) (Nat.ne_of_lt (unhide HZ).2) 0 (.slice a9 m9 c9))
    have cn : (w9.setCell ⟨w2.heap.size, 0, none⟩ (.slice a9 m9 c9)).cell? ⟨w2.heap.size, 0, none⟩ = some (.slice a9 m9 c9) := World.cell?_setCell_same _ _ _ cn9
    clear cn9 fn9 cn0 HM HM8 HM9 HB8 HB9 HA8 HA9
    generalize w9.setCell ⟨w2.heap.size, 0, none⟩ (.slice a9 m9 c9) = wx at *
    obtain ⟨c0, c1, c2', c3⟩ := unhide HA
    go_wp2_with fail
    refine (unhide HE _ _ _ _ (unhide H9)).mono ?_
    rintro _ wz ⟨rfl, hbl⟩
    have HB := hide (bthen (unhide HB) hbl)
    go_wp2_with fail
    go_ret
    exact ⟨rfl, unhide HB⟩
set_option maxRecDepth 100000 in
set_option maxHeartbeats 2000000 in
theorem rmake_2u {w x K1 X1 S1 V h : Int} (W : World) (HO : Hid (∀ W, Calls Try.prog 14 #[.int .i64 w, .int .u64 x] W fun r W' => r = .returned (.agg #[.bool true, .int .i64 K1, .int .i64 X1, .int .u64 S1]) ∧ Below W.heap.size W W')) (z : Nat) (k3 : (K1 == 3) = false) (k1 : (K1 != 1) = false) (HD : Hid (∀ W, Calls Try.prog 15 #[.agg #[.bool true, .int .i64 K1, .int .i64 X1, .int .u64 S1]] W fun e w' => ∃ s, e = .returned (.tuple #[.agg #[s], .int .i64 h, .bool true]) ∧ IsNat w' s z ∧ Below W.heap.size W w')) (hz : Hid (z < pw 100))  (HE : Hid (∀ (a : Option Addr) (m c : Nat) (W : World), IsNat W (.slice a m c) (z + 1) → Calls Try.prog 35 #[.int .i64 w, .bool true, .agg #[.slice a m c], .int .i64 0] W fun r W' => r = .returned (.int .u64 V) ∧ Below W.heap.size W W')) :
    Calls Try.prog 12 #[.int .i64 w, .int .u64 x, .int .i64 2] W fun r W' => r = .returned (.int .u64 V) ∧ Below W.heap.size W W' := by
  go_enter Try.func12, Try.ntmps12
  go_wp2_with fail
  refine (unhide HO _).mono ?_
  rintro _ w1 ⟨rfl, hb⟩
  have HB := hide (balloc hb (.cells #[.bool true, .int .i64 K1, .int .i64 X1, .int .u64 S1] 30))
  have HA := hide (at4_new w1 (.bool true) (.int .i64 K1) (.int .i64 X1) (.int .u64 S1) 30)
  have HZ0 := hide hb.size
  clear hb
  obtain ⟨c0, c1, c2, c3⟩ := unhide HA
  go_wp2_with fail
  clear c0 c1 c2 c3
  refine (unhide HD _).mono ?_
  rintro _ w2 ⟨s2, rfl, hN, hb⟩
  obtain ⟨a2, m2, c2, rfl⟩ := hN.slice
  have HB := hide (balloc (bthen (unhide HB) hb) (.cells #[.slice a2 m2 c2] 33))
  have HA := hide (((unhide HA).below hb).below (below1 _ (.cells #[.slice a2 m2 c2] 33)))
  have HN := hide (hN.below (below1 _ (.cells #[.slice a2 m2 c2] 33)))
  have HM : Hid ((w2.alloc (.cells #[.slice a2 m2 c2] 33)).cell? ⟨w2.heap.size, 0, none⟩ = some (.slice a2 m2 c2) ∧ (w2.alloc (.cells #[.slice a2 m2 c2] 33)).frozen? ⟨w2.heap.size, 0, none⟩ = false) := ⟨by simp [go_sem], by simp [go_sem]⟩
  have HZ : Hid (W.heap.size ≤ w2.heap.size ∧ w1.heap.size < w2.heap.size) := ⟨by have := unhide HZ0; have := hb.size; simp at this; omega, by have := hb.size; simp at this; omega⟩
  clear hb hN
  obtain ⟨c0, c1, c2', c3⟩ := unhide HA
  obtain ⟨cn, fn⟩ := unhide HM
  go_wp2_with fail
  clear c0 c1 c2' c3 cn fn
  generalize w2.alloc (.cells #[.slice a2 m2 c2] 33) = w2' at *
  generalize w2' = wq at *
  have HB := hide (unhide HB).drew
  have HA := hide ((unhide HA).below ((Below.refl _ _).drew))
  have HN := hide ((unhide HN).below ((Below.refl _ _).drew))
  have HM := hide ((stable_var _ _) _ _ (unhide HM) ((Below.refl _ _).drew))
  have cn0 := (unhide HM).1
  go_region_with (first
    | (go_at_call 34; refine (refOf_1 _).mono ?_; rintro e w8 ⟨s8, rfl, hN8, hbl⟩; obtain ⟨a8, m8, c8, rfl⟩ := hN8.slice; have H8 := hide hN8; have HN8 := hide ((unhide HN).below hbl); have HM8 := hide ((stable_var _ _) _ _ (unhide HM) hbl); have HA8 := hide ((unhide HA).below hbl); have HB8 := hide (bthen (unhide HB) hbl); clear hbl hN8; have cn8 := (unhide HM8).1)
    | (go_at_call 33; refine (refAdd_any _ _ _ _ _ _ _ _ _ (unhide HN8) (unhide H8) (Nat.le_trans ((unhide HN8).short (unhide hz)) (by omega)) (nat_one (unhide H8))).mono ?_; rintro e w9 ⟨s9, rfl, hN9, hbl⟩; obtain ⟨a9, m9, c9, rfl⟩ := hN9.slice; have H9 := hide hN9; have HM9 := hide ((stable_var _ _) _ _ (unhide HM8) hbl); have HA9 := hide ((unhide HA8).below hbl); have HB9 := hide (bthen (unhide HB8) hbl); clear hbl hN9 cn8; have cn9 := (unhide HM9).1; have fn9 := (unhide HM9).2))
  all_goals
    have H9 := hide ((unhide H9).store cn9 (.slice a9 m9 c9))
    have HB := hide (bset (unhide HB9) w2.heap.size (unhide HZ).1 0 (.slice a9 m9 c9))
    have HA := hide (At4.set (unhide HA9) (Nat.ne_of_lt (unhide HZ).2) 0 (.slice a9 m9 c9))
    have cn : (w9.setCell ⟨w2.heap.size, 0, none⟩ (.slice a9 m9 c9)).cell? ⟨w2.heap.size, 0, none⟩ = some (.slice a9 m9 c9) := World.cell?_setCell_same _ _ _ cn9
    clear cn9 fn9 cn0 HM HM8 HM9 HB8 HB9 HA8 HA9
    generalize w9.setCell ⟨w2.heap.size, 0, none⟩ (.slice a9 m9 c9) = wx at *
    obtain ⟨c0, c1, c2', c3⟩ := unhide HA
    go_wp2_with fail
    refine (unhide HE _ _ _ _ (unhide H9)).mono ?_
    rintro _ wz ⟨rfl, hbl⟩
    have HB := hide (bthen (unhide HB) hbl)
    go_wp2_with fail
    go_ret
    exact ⟨rfl, unhide HB⟩
set_option maxRecDepth 100000 in
set_option maxHeartbeats 2000000 in
theorem rmake_4u {w x K1 X1 S1 V : Int} {n1 l : Bool} (W : World) (HO : Hid (∀ W, Calls Try.prog 14 #[.int .i64 w, .int .u64 x] W fun r W' => r = .returned (.agg #[.bool n1, .int .i64 K1, .int .i64 X1, .int .u64 S1]) ∧ Below W.heap.size W W')) (z : Nat) (k3 : (K1 == 3) = false) (k1 : (K1 != 1) = false) (HD : Hid (∀ W, Calls Try.prog 15 #[.agg #[.bool n1, .int .i64 K1, .int .i64 X1, .int .u64 S1]] W fun e w' => ∃ s, e = .returned (.tuple #[.agg #[s], .int .i64 1, .bool l]) ∧ IsNat w' s z ∧ Below W.heap.size W w')) (hz : Hid (z < pw 100))  (HE : Hid (∀ (a : Option Addr) (m c : Nat) (W : World), IsNat W (.slice a m c) (z + 1) → Calls Try.prog 35 #[.int .i64 w, .bool n1, .agg #[.slice a m c], .int .i64 0] W fun r W' => r = .returned (.int .u64 V) ∧ Below W.heap.size W W')) :
    Calls Try.prog 12 #[.int .i64 w, .int .u64 x, .int .i64 4] W fun r W' => r = .returned (.int .u64 V) ∧ Below W.heap.size W W' := by
  go_enter Try.func12, Try.ntmps12
  go_wp2_with fail
  refine (unhide HO _).mono ?_
  rintro _ w1 ⟨rfl, hb⟩
  have HB := hide (balloc hb (.cells #[.bool n1, .int .i64 K1, .int .i64 X1, .int .u64 S1] 30))
  have HA := hide (at4_new w1 (.bool n1) (.int .i64 K1) (.int .i64 X1) (.int .u64 S1) 30)
  have HZ0 := hide hb.size
  clear hb
  obtain ⟨c0, c1, c2, c3⟩ := unhide HA
  go_wp2_with fail
  clear c0 c1 c2 c3
  refine (unhide HD _).mono ?_
  rintro _ w2 ⟨s2, rfl, hN, hb⟩
  obtain ⟨a2, m2, c2, rfl⟩ := hN.slice
  have HB := hide (balloc (bthen (unhide HB) hb) (.cells #[.slice a2 m2 c2] 33))
  have HA := hide (((unhide HA).below hb).below (below1 _ (.cells #[.slice a2 m2 c2] 33)))
  have HN := hide (hN.below (below1 _ (.cells #[.slice a2 m2 c2] 33)))
  have HM : Hid ((w2.alloc (.cells #[.slice a2 m2 c2] 33)).cell? ⟨w2.heap.size, 0, none⟩ = some (.slice a2 m2 c2) ∧ (w2.alloc (.cells #[.slice a2 m2 c2] 33)).frozen? ⟨w2.heap.size, 0, none⟩ = false) := ⟨by simp [go_sem], by simp [go_sem]⟩
  have HZ : Hid (W.heap.size ≤ w2.heap.size ∧ w1.heap.size < w2.heap.size) := ⟨by have := unhide HZ0; have := hb.size; simp at this; omega, by have := hb.size; simp at this; omega⟩
  clear hb hN
  obtain ⟨c0, c1, c2', c3⟩ := unhide HA
  obtain ⟨cn, fn⟩ := unhide HM
  go_wp2_with fail
  clear c0 c1 c2' c3 cn fn
  generalize w2.alloc (.cells #[.slice a2 m2 c2] 33) = w2' at *
  generalize w2' = wq at *
  have HB := hide (unhide HB).drew
  have HA := hide ((unhide HA).below ((Below.refl _ _).drew))
  have HN := hide ((unhide HN).below ((Below.refl _ _).drew))
  have HM := hide ((stable_var _ _) _ _ (unhide HM) ((Below.refl _ _).drew))
  have cn0 := (unhide HM).1
  go_region_with (first
    | (go_at_call 34; refine (refOf_1 _).mono ?_; rintro e w8 ⟨s8, rfl, hN8, hbl⟩; obtain ⟨a8, m8, c8, rfl⟩ := hN8.slice; have H8 := hide hN8; have HN8 := hide ((unhide HN).below hbl); have HM8 := hide ((stable_var _ _) _ _ (unhide HM) hbl); have HA8 := hide ((unhide HA).below hbl); have HB8 := hide (bthen (unhide HB) hbl); clear hbl hN8; have cn8 := (unhide HM8).1)
    | (go_at_call 33; refine (refAdd_any _ _ _ _ _ _ _ _ _ (unhide HN8) (unhide H8) (Nat.le_trans ((unhide HN8).short (unhide hz)) (by omega)) (nat_one (unhide H8))).mono ?_; rintro e w9 ⟨s9, rfl, hN9, hbl⟩; obtain ⟨a9, m9, c9, rfl⟩ := hN9.slice; have H9 := hide hN9; have HM9 := hide ((stable_var _ _) _ _ (unhide HM8) hbl); have HA9 := hide ((unhide HA8).below hbl); have HB9 := hide (bthen (unhide HB8) hbl); clear hbl hN9 cn8; have cn9 := (unhide HM9).1; have fn9 := (unhide HM9).2))
  all_goals
    have H9 := hide ((unhide H9).store cn9 (.slice a9 m9 c9))
    have HB := hide (bset (unhide HB9) w2.heap.size (unhide HZ).1 0 (.slice a9 m9 c9))
    have HA := hide (At4.set (unhide HA9) (Nat.ne_of_lt (unhide HZ).2) 0 (.slice a9 m9 c9))
    have cn : (w9.setCell ⟨w2.heap.size, 0, none⟩ (.slice a9 m9 c9)).cell? ⟨w2.heap.size, 0, none⟩ = some (.slice a9 m9 c9) := World.cell?_setCell_same _ _ _ cn9
    clear cn9 fn9 cn0 HM HM8 HM9 HB8 HB9 HA8 HA9
    generalize w9.setCell ⟨w2.heap.size, 0, none⟩ (.slice a9 m9 c9) = wx at *
    obtain ⟨c0, c1, c2', c3⟩ := unhide HA
    go_wp2_with fail
    refine (unhide HE _ _ _ _ (unhide H9)).mono ?_
    rintro _ wz ⟨rfl, hbl⟩
    have HB := hide (bthen (unhide HB) hbl)
    go_wp2_with fail
    go_ret
    exact ⟨rfl, unhide HB⟩
set_option maxRecDepth 100000 in
set_option maxHeartbeats 2000000 in
theorem rmake_4o {w x K1 X1 S1 V o : Int} {n1 l : Bool} (W : World) (HO : Hid (∀ W, Calls Try.prog 14 #[.int .i64 w, .int .u64 x] W fun r W' => r = .returned (.agg #[.bool n1, .int .i64 K1, .int .i64 X1, .int .u64 S1]) ∧ Below W.heap.size W W')) (z : Nat) (k3 : (K1 == 3) = false) (k1 : (K1 != 1) = false) (HD : Hid (∀ W, Calls Try.prog 15 #[.agg #[.bool n1, .int .i64 K1, .int .i64 X1, .int .u64 S1]] W fun e w' => ∃ s, e = .returned (.tuple #[.agg #[s], .int .i64 0, .bool l]) ∧ IsNat w' s z ∧ Below W.heap.size W w')) (hz : Hid (z < pw 100)) (HL : Hid (lo z = o)) (km : o.tmod 2 = 1) (HE : Hid (∀ (a : Option Addr) (m c : Nat) (W : World), IsNat W (.slice a m c) (z + 1) → Calls Try.prog 35 #[.int .i64 w, .bool n1, .agg #[.slice a m c], .int .i64 0] W fun r W' => r = .returned (.int .u64 V) ∧ Below W.heap.size W W')) :
    Calls Try.prog 12 #[.int .i64 w, .int .u64 x, .int .i64 4] W fun r W' => r = .returned (.int .u64 V) ∧ Below W.heap.size W W' := by
  go_enter Try.func12, Try.ntmps12
  go_wp2_with fail
  refine (unhide HO _).mono ?_
  rintro _ w1 ⟨rfl, hb⟩
  have HB := hide (balloc hb (.cells #[.bool n1, .int .i64 K1, .int .i64 X1, .int .u64 S1] 30))
  have HA := hide (at4_new w1 (.bool n1) (.int .i64 K1) (.int .i64 X1) (.int .u64 S1) 30)
  have HZ0 := hide hb.size
  clear hb
  obtain ⟨c0, c1, c2, c3⟩ := unhide HA
  go_wp2_with fail
  clear c0 c1 c2 c3
  refine (unhide HD _).mono ?_
  rintro _ w2 ⟨s2, rfl, hN, hb⟩
  obtain ⟨a2, m2, c2, rfl⟩ := hN.slice
  have HB := hide (balloc (bthen (unhide HB) hb) (.cells #[.slice a2 m2 c2] 33))
  have HA := hide (((unhide HA).below hb).below (below1 _ (.cells #[.slice a2 m2 c2] 33)))
  have HN := hide (hN.below (below1 _ (.cells #[.slice a2 m2 c2] 33)))
  have HM : Hid ((w2.alloc (.cells #[.slice a2 m2 c2] 33)).cell? ⟨w2.heap.size, 0, none⟩ = some (.slice a2 m2 c2) ∧ (w2.alloc (.cells #[.slice a2 m2 c2] 33)).frozen? ⟨w2.heap.size, 0, none⟩ = false) := ⟨by simp [go_sem], by simp [go_sem]⟩
  have HZ : Hid (W.heap.size ≤ w2.heap.size ∧ w1.heap.size < w2.heap.size) := ⟨by have := unhide HZ0; have := hb.size; simp at this; omega, by have := hb.size; simp at this; omega⟩
  clear hb hN
  obtain ⟨c0, c1, c2', c3⟩ := unhide HA
  obtain ⟨cn, fn⟩ := unhide HM
  go_wp2_with fail
  clear c0 c1 c2' c3 cn fn
  generalize w2.alloc (.cells #[.slice a2 m2 c2] 33) = w2' at *
  refine (uint_any _ _ _ _ _ (unhide HN)).mono ?_
  rw [unhide HL]
  rintro _ w3 ⟨rfl, hb⟩
  have HB := hide (bthen (unhide HB) hb)
  have HA := hide ((unhide HA).below hb)
  have HN := hide ((unhide HN).below hb)
  have HM := hide ((stable_var _ _) _ _ (unhide HM) hb)
  clear hb
  obtain ⟨c0, c1, c2', c3⟩ := unhide HA
  obtain ⟨cn, fn⟩ := unhide HM
  go_wp2_with fail
  clear c0 c1 c2' c3 cn fn
  generalize w3 = wq at *
  have HB := hide (unhide HB).drew
  have HA := hide ((unhide HA).below ((Below.refl _ _).drew))
  have HN := hide ((unhide HN).below ((Below.refl _ _).drew))
  have HM := hide ((stable_var _ _) _ _ (unhide HM) ((Below.refl _ _).drew))
  have cn0 := (unhide HM).1
  go_region_with (first
    | (go_at_call 34; refine (refOf_1 _).mono ?_; rintro e w8 ⟨s8, rfl, hN8, hbl⟩; obtain ⟨a8, m8, c8, rfl⟩ := hN8.slice; have H8 := hide hN8; have HN8 := hide ((unhide HN).below hbl); have HM8 := hide ((stable_var _ _) _ _ (unhide HM) hbl); have HA8 := hide ((unhide HA).below hbl); have HB8 := hide (bthen (unhide HB) hbl); clear hbl hN8; have cn8 := (unhide HM8).1)
    | (go_at_call 33; refine (refAdd_any _ _ _ _ _ _ _ _ _ (unhide HN8) (unhide H8) (Nat.le_trans ((unhide HN8).short (unhide hz)) (by omega)) (nat_one (unhide H8))).mono ?_; rintro e w9 ⟨s9, rfl, hN9, hbl⟩; obtain ⟨a9, m9, c9, rfl⟩ := hN9.slice; have H9 := hide hN9; have HM9 := hide ((stable_var _ _) _ _ (unhide HM8) hbl); have HA9 := hide ((unhide HA8).below hbl); have HB9 := hide (bthen (unhide HB8) hbl); clear hbl hN9 cn8; have cn9 := (unhide HM9).1; have fn9 := (unhide HM9).2))
  all_goals
    have H9 := hide ((unhide H9).store cn9 (.slice a9 m9 c9))
    have HB := hide (bset (unhide HB9) w2.heap.size (unhide HZ).1 0 (.slice a9 m9 c9))
    have HA := hide (At4.set (unhide HA9) (Nat.ne_of_lt (unhide HZ).2) 0 (.slice a9 m9 c9))
    have cn : (w9.setCell ⟨w2.heap.size, 0, none⟩ (.slice a9 m9 c9)).cell? ⟨w2.heap.size, 0, none⟩ = some (.slice a9 m9 c9) := World.cell?_setCell_same _ _ _ cn9
    clear cn9 fn9 cn0 HM HM8 HM9 HB8 HB9 HA8 HA9
    generalize w9.setCell ⟨w2.heap.size, 0, none⟩ (.slice a9 m9 c9) = wx at *
    obtain ⟨c0, c1, c2', c3⟩ := unhide HA
    go_wp2_with fail
    refine (unhide HE _ _ _ _ (unhide H9)).mono ?_
    rintro _ wz ⟨rfl, hbl⟩
    have HB := hide (bthen (unhide HB) hbl)
    go_wp2_with fail
    go_ret
    exact ⟨rfl, unhide HB⟩
set_option maxRecDepth 100000 in
set_option maxHeartbeats 2000000 in
theorem rmake_4e {w x K1 X1 S1 V o : Int} {n1 l : Bool} (W : World) (HO : Hid (∀ W, Calls Try.prog 14 #[.int .i64 w, .int .u64 x] W fun r W' => r = .returned (.agg #[.bool n1, .int .i64 K1, .int .i64 X1, .int .u64 S1]) ∧ Below W.heap.size W W')) (z : Nat) (k3 : (K1 == 3) = false) (k1 : (K1 != 1) = false) (HD : Hid (∀ W, Calls Try.prog 15 #[.agg #[.bool n1, .int .i64 K1, .int .i64 X1, .int .u64 S1]] W fun e w' => ∃ s, e = .returned (.tuple #[.agg #[s], .int .i64 0, .bool l]) ∧ IsNat w' s z ∧ Below W.heap.size W w')) (HL : Hid (lo z = o)) (km : o.tmod 2 = 0) (HE : Hid (∀ (a : Option Addr) (m c : Nat) (W : World), IsNat W (.slice a m c) (z) → Calls Try.prog 35 #[.int .i64 w, .bool n1, .agg #[.slice a m c], .int .i64 0] W fun r W' => r = .returned (.int .u64 V) ∧ Below W.heap.size W W')) :
    Calls Try.prog 12 #[.int .i64 w, .int .u64 x, .int .i64 4] W fun r W' => r = .returned (.int .u64 V) ∧ Below W.heap.size W W' := by
  go_enter Try.func12, Try.ntmps12
  go_wp2_with fail
  refine (unhide HO _).mono ?_
  rintro _ w1 ⟨rfl, hb⟩
  have HB := hide (balloc hb (.cells #[.bool n1, .int .i64 K1, .int .i64 X1, .int .u64 S1] 30))
  have HA := hide (at4_new w1 (.bool n1) (.int .i64 K1) (.int .i64 X1) (.int .u64 S1) 30)
  have HZ0 := hide hb.size
  clear hb
  obtain ⟨c0, c1, c2, c3⟩ := unhide HA
  go_wp2_with fail
  clear c0 c1 c2 c3
  refine (unhide HD _).mono ?_
  rintro _ w2 ⟨s2, rfl, hN, hb⟩
  obtain ⟨a2, m2, c2, rfl⟩ := hN.slice
  have HB := hide (balloc (bthen (unhide HB) hb) (.cells #[.slice a2 m2 c2] 33))
  have HA := hide (((unhide HA).below hb).below (below1 _ (.cells #[.slice a2 m2 c2] 33)))
  have HN := hide (hN.below (below1 _ (.cells #[.slice a2 m2 c2] 33)))
  have HM : Hid ((w2.alloc (.cells #[.slice a2 m2 c2] 33)).cell? ⟨w2.heap.size, 0, none⟩ = some (.slice a2 m2 c2) ∧ (w2.alloc (.cells #[.slice a2 m2 c2] 33)).frozen? ⟨w2.heap.size, 0, none⟩ = false) := ⟨by simp [go_sem], by simp [go_sem]⟩
  have HZ : Hid (W.heap.size ≤ w2.heap.size ∧ w1.heap.size < w2.heap.size) := ⟨by have := unhide HZ0; have := hb.size; simp at this; omega, by have := hb.size; simp at this; omega⟩
  clear hb hN
  obtain ⟨c0, c1, c2', c3⟩ := unhide HA
  obtain ⟨cn, fn⟩ := unhide HM
  go_wp2_with fail
  clear c0 c1 c2' c3 cn fn
  generalize w2.alloc (.cells #[.slice a2 m2 c2] 33) = w2' at *
  refine (uint_any _ _ _ _ _ (unhide HN)).mono ?_
  rw [unhide HL]
  rintro _ w3 ⟨rfl, hb⟩
  have HB := hide (bthen (unhide HB) hb)
  have HA := hide ((unhide HA).below hb)
  have HN := hide ((unhide HN).below hb)
  have HM := hide ((stable_var _ _) _ _ (unhide HM) hb)
  clear hb
  obtain ⟨c0, c1, c2', c3⟩ := unhide HA
  obtain ⟨cn, fn⟩ := unhide HM
  go_wp2_with fail
  clear c0 c1 c2' c3 cn fn
  refine (unhide HE _ _ _ _ (unhide HN)).mono ?_
  rintro _ wz ⟨rfl, hbl⟩
  have HB := hide (bthen (unhide HB) hbl)
  go_wp2_with fail
  go_ret
  exact ⟨rfl, unhide HB⟩

end Go.Proofs.Ytepdmpcgkecjiaa
