/- WRefJ, ToA, ToB. -/
import Derived.Test.YtpbgpdmffejdgaaGreatDoorS01
import Derived.Test.YtpbgpdmffejdgaaGreatDoorS21
import Derived.Test.YtpbgpdmffejdgaaGreatDoorS22
import Derived.Test.YtpbgpdmffejdgaaGreatDoorS23
namespace Go.Proofs.YtpbgpdmffejdgaaGreatDoor.W
open Go.RowKit

theorem IsNat.pos {w : World} {a : Option Addr} {n c x : Nat} (h : IsNat w (.slice a n c) x) : (0 < n) = (x ≠ 0) := by
  refine propext ⟨fun hn hx => ?_, fun hx => ?_⟩
  · have := h.short (k := 0) (by rw [pw_0]; omega)
    omega
  · refine Decidable.byContradiction fun hn => ?_
    have := h.len.1
    rw [show n = 0 by omega, pw_0] at this
    omega

end Go.Proofs.YtpbgpdmffejdgaaGreatDoor.W
namespace Go.Proofs.YtpbgpdmffejdgaaGreatDoor
open Go.RowKit
open Go.Proofs.YtpbgpdmffejdgaaGreatDoor.W

/-- Three cells of a block. -/
def At3v (b : Nat) (x y z : Value) (w : World) : Prop := w.cell? ⟨b, 0, none⟩ = some x ∧ w.cell? ⟨b, 1, none⟩ = some y ∧ w.cell? ⟨b, 2, none⟩ = some z
theorem At3v.below {b : Nat} {x y z : Value} {w w' : World} (h : At3v b x y z w) (hb : Below w.heap.size w w') : At3v b x y z w' :=
  have hz := lt_of_cell h.1
  ⟨keep1 hb hz h.1, keep1 hb hz h.2.1, keep1 hb hz h.2.2⟩
theorem at3v_new (w : World) (x y z : Value) (t : TypeId) : At3v w.heap.size x y z (w.alloc (.cells #[x, y, z] t)) := by unfold At3v; simp [go_sem]
set_option maxHeartbeats 4000000 in
set_option maxRecDepth 100000 in
theorem rcmp_w {e m k L : Int} {d1 d2 n c n' c' x y : Nat} {a a' : Option Addr} (W : World) (HX : Hid (IsNat W (.slice a n c) x)) (HY : Hid (IsNat W (.slice a' n' c') y)) (HR : Hid (0 ≤ m ∧ m < 18446744073709551616))
    (hL : e ≤ k ∧ e = L ∨ ¬ e ≤ k ∧ k = L) (h1 : ∀ z, z = e - L → IntKind.i64.wrap z = (d1 : Int)) (h2 : ∀ z, z = k - L → IntKind.i64.wrap z = (d2 : Int)) (HL : Hid (n ≤ 1000 ∧ d1 ≤ 10000 ∧ d2 ≤ 10000 ∧ m.toNat < pw 2 ∧ m.toNat * 2 ^ d2 < pw 1000 ∧ n' ≤ 1000)) :
    Calls Tryz.prog 22 #[.agg #[.slice a n c, .slice a' n' c', .int .i64 e], .int .u64 m, .int .i64 k] W fun r W' => r = .returned (.int .i64 (cmpN (x * 2 ^ d1) (m.toNat * 2 ^ d2 * y))) ∧ Below W.heap.size W W' := by
  have HB := hide (below1 W (.cells #[.slice a n c, .slice a' n' c', .int .i64 e] 43)).drew
  have H3 := hide ((at3v_new W (.slice a n c) (.slice a' n' c') (.int .i64 e) 43).below ((Below.refl _ _).drew))
  have HX := hide ((unhide HX).below (below1 W (.cells #[.slice a n c, .slice a' n' c', .int .i64 e] 43)).drew)
  have HY := hide ((unhide HY).below (below1 W (.cells #[.slice a n c, .slice a' n' c', .int .i64 e] 43)).drew)
  rcases hL with ⟨hm, rfl⟩ | ⟨hm, rfl⟩
  all_goals
    have e1 := h1 _ rfl
    have e2 := h2 _ rfl
    clear h1 h2
    try rw [Int.sub_self] at e1
    try rw [Int.sub_self] at e2
    go_enter Tryz.func22, Tryz.ntmps22
    go_wp2_with fail
    refine wp_region_held_drew (S := fun w' => (w'.cell? ⟨W.heap.size, 0, none⟩ = some (.slice a n c) ∧ w'.cell? ⟨W.heap.size, 1, none⟩ = some (.slice a' n' c') ∧ w'.cell? ⟨W.heap.size, 2, none⟩ = some (.int .i64 e))) (by kernel_rfl) ?_ (fun hHeld => ?_)
    · (try dsimp only)
      exact unhide H3
    refine lst0 18 (by kernel_rfl) ?_
    refine tkA 0 12 1 ?_
    refine tkA 1 13 3 ?_
    refine tkA 2 14 7 ?_
    refine tkA 3 15 15 ?_
    refine tkA 4 16 31 ?_
    refine tkA 5 17 63 ?_
    refine tkA 7 19 191 ?_
    refine tkA 9 21 703 ?_
    refine tkA 10 22 1727 ?_
    refine tkA 11 23 3775 ?_
    refine tkA 13 25 11967 ?_
    refine tkA 14 26 28351 ?_
    refine rdA 6 28415 (fun Kk hKk => ?_)
    go_simp
    refine (refShl_any _ _ _ _ _ _ (unhide HX) (unhide HL).1 (unhide HL).2.1).mono ?_
    rintro _ w2 ⟨s2, rfl, hN, hb⟩
    obtain ⟨a2, m2, e2, rfl⟩ := hN.slice
    have N2 := hide hN
    clear hN
    have HB := hide (bthen (unhide HB) hb)
    have H3 := hide ((unhide H3).below hb)
    have HX := hide ((unhide HX).below hb)
    have HY := hide ((unhide HY).below hb)
    clear hb
    (try go_wp2_with fail)
    refine hKk.out _ _ ?_ (fun hHeld => ?_)
    · (try dsimp only)
      exact unhide H3
    clear hKk Kk
    (try simp only [List.setIfInBounds_toArray, List.set_cons_zero, List.set_cons_succ])
    refine rdA 8 28671 (fun Kk hKk => ?_)
    go_simp
    refine (refOf_any m _ (unhide HR).1 (unhide HR).2).mono ?_
    rintro _ w3 ⟨s3, rfl, hN, hb⟩
    obtain ⟨a3, m3, e3, rfl⟩ := hN.slice
    have N3 := hide hN
    clear hN
    have HB := hide (bthen (unhide HB) hb)
    have H3 := hide ((unhide H3).below hb)
    have HX := hide ((unhide HX).below hb)
    have HY := hide ((unhide HY).below hb)
    have N2 := hide ((unhide N2).below hb)
    clear hb
    (try go_wp2_with fail)
    refine hKk.out _ _ ?_ (fun hHeld => ?_)
    · (try dsimp only)
      exact unhide H3
    clear hKk Kk
    (try simp only [List.setIfInBounds_toArray, List.set_cons_zero, List.set_cons_succ])
    refine rdA 12 32767 (fun Kk hKk => ?_)
    go_simp
    refine (refShl_any _ _ _ _ _ _ (unhide N3) (Nat.le_trans ((unhide N3).short (unhide HL).2.2.2.1) (by omega)) (unhide HL).2.2.1).mono ?_
    rintro _ w4 ⟨s4, rfl, hN, hb⟩
    obtain ⟨a4, m4, e4, rfl⟩ := hN.slice
    have N4 := hide hN
    clear hN
    have HB := hide (bthen (unhide HB) hb)
    have H3 := hide ((unhide H3).below hb)
    have HX := hide ((unhide HX).below hb)
    have HY := hide ((unhide HY).below hb)
    have N2 := hide ((unhide N2).below hb)
    clear hb
    (try go_wp2_with fail)
    refine hKk.out _ _ ?_ (fun hHeld => ?_)
    · (try dsimp only)
      exact unhide H3
    clear hKk Kk
    (try simp only [List.setIfInBounds_toArray, List.set_cons_zero, List.set_cons_succ])
    refine rdA 15 65535 (fun Kk hKk => ?_)
    go_simp
    refine (refMul_any _ _ _ _ _ _ _ _ _ (unhide N4) (unhide HY) (Nat.le_trans ((unhide N4).short (unhide HL).2.2.2.2.1) (Nat.le_refl _)) (unhide HL).2.2.2.2.2).mono ?_
    rintro _ w5 ⟨s5, rfl, hN, hb⟩
    obtain ⟨a5, m5, e5, rfl⟩ := hN.slice
    have N5 := hide hN
    clear hN
    have HB := hide (bthen (unhide HB) hb)
    have H3 := hide ((unhide H3).below hb)
    have HX := hide ((unhide HX).below hb)
    have HY := hide ((unhide HY).below hb)
    have N2 := hide ((unhide N2).below hb)
    clear hb
    (try go_wp2_with fail)
    refine hKk.out _ _ ?_ (fun hHeld => ?_)
    · (try dsimp only)
      exact unhide H3
    clear hKk Kk
    (try simp only [List.setIfInBounds_toArray, List.set_cons_zero, List.set_cons_succ])
    refine rdA 16 131071 (fun Kk hKk => ?_)
    go_simp
    refine (refCmp_any _ _ _ _ _ _ _ _ _ (unhide N2) (unhide N5)).mono ?_
    rintro _ w6 ⟨rfl, hb⟩
    have HB := hide (bthen (unhide HB) hb)
    have H3 := hide ((unhide H3).below hb)
    clear hb
    (try go_wp2_with fail)
    refine hKk.out _ _ ?_ (fun hHeld => ?_)
    · (try dsimp only)
      exact unhide H3
    clear hKk Kk
    (try simp only [List.setIfInBounds_toArray, List.set_cons_zero, List.set_cons_succ])
    refine tkA 17 6 262143 ?_
    refine wpAnyH_done (by kernel_rfl) ?_ _
    clear hHeld
    go_wp2_with fail
    go_ret
    exact ⟨rfl, unhide HB⟩
end Go.Proofs.YtpbgpdmffejdgaaGreatDoor
namespace Go.Proofs.YtpbgpdmffejdgaaGreatDoor
open Go.RowKit
open Go.Proofs.YtpbgpdmffejdgaaGreatDoor.W

set_option maxHeartbeats 4000000 in
set_option maxRecDepth 100000 in
theorem square_w {m k K X S j L : Int} {n : Bool} {d1 d2 : Nat} (b : Nat) (W : World) (HA : Hid (At4 b (.bool n) (.int .i64 K) (.int .i64 X) (.int .u64 S) W)) (HR : Hid (0 ≤ m ∧ m < 18446744073709551616)) (HS : Hid (0 ≤ S ∧ S < 18446744073709551616)) (kj : IntKind.i64.wrap (2 * k) = j)
    (hL : Hid (j ≤ X ∧ j = L ∨ X < j ∧ X = L)) (h1 : Hid (∀ z, z = j - L → IntKind.i64.wrap z = (d1 : Int))) (h2 : Hid (∀ z, z = X - L → IntKind.i64.wrap z = (d2 : Int))) (HL : Hid (d1 ≤ 10000 ∧ d2 ≤ 10000 ∧ m.toNat < pw 2 ∧ m.toNat * m.toNat < pw 4 ∧ S.toNat < pw 2 ∧ S.toNat * 2 ^ d2 < pw 1000)) :
    Calls Tryz.prog 19 #[.int .u64 m, .int .i64 k, .pointer (some ⟨b, 0, none⟩)] W fun r W' => r = .returned (.int .i64 (cmpN (m.toNat * m.toNat * 2 ^ d1) (S.toNat * 2 ^ d2))) ∧ Below W.heap.size W W' := by
  have HB := hide (Below.refl W.heap.size W)
  go_enter Tryz.func19, Tryz.ntmps19
  go_wp2_with fail
  refine (refOf_any m _ (unhide HR).1 (unhide HR).2).mono ?_
  rintro _ w1 ⟨s1, rfl, hN, hb⟩
  obtain ⟨a1, m1, e1, rfl⟩ := hN.slice
  have N1 := hide hN
  clear hN
  have HB := hide (bthen (unhide HB) hb)
  have HA := hide ((unhide HA).below hb)
  clear hb
  go_wp2_with fail
  refine (refOf_any m _ (unhide HR).1 (unhide HR).2).mono ?_
  rintro _ w2 ⟨s2, rfl, hN, hb⟩
  obtain ⟨a2, m2, e2, rfl⟩ := hN.slice
  have N2 := hide hN
  clear hN
  have HB := hide (bthen (unhide HB) hb)
  have HA := hide ((unhide HA).below hb)
  have N1 := hide ((unhide N1).below hb)
  clear hb
  go_wp2_with fail
  refine (refMul_any _ _ _ _ _ _ _ _ _ (unhide N1) (unhide N2) (Nat.le_trans ((unhide N1).short (unhide HL).2.2.1) (by omega)) (Nat.le_trans ((unhide N2).short (unhide HL).2.2.1) (by omega))).mono ?_
  rintro _ w3 ⟨s3, rfl, hN, hb⟩
  obtain ⟨a3, m3, e3, rfl⟩ := hN.slice
  have N3 := hide hN
  clear hN
  have HB := hide (bthen (unhide HB) hb)
  have HA := hide ((unhide HA).below hb)
  clear hb
  clear N1 N2
  go_wp2_with fail
  refine (refOf_1 _).mono ?_
  rintro _ w4 ⟨s4, rfl, hN, hb⟩
  obtain ⟨a4, m4, e4, rfl⟩ := hN.slice
  have N4 := hide hN
  clear hN
  have HB := hide (bthen (unhide HB) hb)
  have HA := hide ((unhide HA).below hb)
  have N3 := hide ((unhide N3).below hb)
  clear hb
  have HB := hide (balloc (unhide HB) (.cells #[.slice a3 m3 e3, .slice a4 m4 e4, .int .i64 j] 43))
  have HA := hide ((unhide HA).below (below1 w4 (.cells #[.slice a3 m3 e3, .slice a4 m4 e4, .int .i64 j] 43)))
  have N3 := hide ((unhide N3).below (below1 w4 (.cells #[.slice a3 m3 e3, .slice a4 m4 e4, .int .i64 j] 43)))
  have N4 := hide ((unhide N4).below (below1 w4 (.cells #[.slice a3 m3 e3, .slice a4 m4 e4, .int .i64 j] 43)))
  obtain ⟨c0, c1, c2, c3⟩ := unhide HA
  go_wp2_with fail
  clear c0 c1 c2 c3
  refine (rcmp_w _ N3 N4 HS ((unhide hL).imp_right fun h => ⟨by omega, h.2⟩) (unhide h1) (unhide h2) (hide ⟨Nat.le_trans ((unhide N3).short (unhide HL).2.2.2.1) (by omega), (unhide HL).1, (unhide HL).2.1, (unhide HL).2.2.2.2.1, (unhide HL).2.2.2.2.2, Nat.le_trans ((unhide N4).short (show 1 < pw 2 by decide)) (by omega)⟩)).mono ?_
  rintro _ w5 ⟨rfl, hb⟩
  have HB := hide (bthen (unhide HB) hb)
  clear hb
  go_wp2_with fail
  go_ret
  exact ⟨rfl, unhide HB⟩
end Go.Proofs.YtpbgpdmffejdgaaGreatDoor
