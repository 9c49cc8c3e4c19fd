/- WhD, WhE, ChR, ChRa. -/
import Derived.Test.YtmbkpmcmhmldgaaT11
import Derived.Test.YtmbkpmcmhmldgaaT16
import Derived.Test.YtmbkpmcmhmldgaaT22
import Derived.Test.YtmbkpmcmhmldgaaT23
import Derived.Test.YtmbkpmcmhmldgaaT25
namespace Go.Proofs.Ytmbkpmcmhmldgaa
open Go.RowKit
open Go.Proofs.Ytmbkpmcmhmldgaa.W

theorem nat_one {w : World} {a : Option Addr} {n c : Nat} (h : IsNat w (.slice a n c) 1) : n ≤ 1000 := Nat.le_trans (h.short (k := 1) (by rw [pw_1]; omega)) (by omega)
theorem nat_word {w : World} {a : Option Addr} {n c : Nat} {S : Int} (h : IsNat w (.slice a n c) S.toNat) (h0 : 0 ≤ S) (h1 : S < 18446744073709551616) : n ≤ 1000 ∧ S.toNat < pw 300 := by
  have e : pw 2 = 18446744073709551616 := by decide +kernel
  have hs : S.toNat < pw 2 := by omega
  exact ⟨Nat.le_trans (h.short hs) (by omega), lt_pw 300 hs (by omega)⟩
set_option maxRecDepth 100000 in
set_option maxHeartbeats 2000000 in
theorem down_up {K1 X1 S1 : Int} {n1 : Bool} (W : World) (HS : Hid (0 ≤ S1 ∧ S1 < 18446744073709551616 ∧ X1 ≤ 10000)) (g : 0 ≤ X1) :
    Calls Try.prog 19 #[.agg #[.bool n1, .int .i64 K1, .int .i64 X1, .int .u64 S1]] W fun e w' => ∃ s, e = .returned (.tuple #[.agg #[s], .int .i64 (-1), .bool false]) ∧ IsNat w' s (S1.toNat * 2 ^ X1.toNat) ∧ Below W.heap.size W w' := by
  have HG := hide g
  go_enter Try.func19, Try.ntmps19
  go_wp2_with fail
  have HB := hide (below2 W (.cells #[.bool n1, .int .i64 K1, .int .i64 X1, .int .u64 S1] 44) (.cells #[.slice none 0 0] 48)).drew
  have HA := hide ((at4_new2a W (.bool n1) (.int .i64 K1) (.int .i64 X1) (.int .u64 S1) 44 (.cells #[.slice none 0 0] 48)).below ((Below.refl _ _).drew))
  have HR : Hid (Room (W.heap.size + 1) 1 ((W.alloc (.cells #[.bool n1, .int .i64 K1, .int .i64 X1, .int .u64 S1] 44)).alloc (.cells #[.slice none 0 0] 48)).drew) := by
    intro o ho
    match o, ho with
    | 0, _ => simp [go_sem]
  have HC : Hid (((W.alloc (.cells #[.bool n1, .int .i64 K1, .int .i64 X1, .int .u64 S1] 44)).alloc (.cells #[.slice none 0 0] 48)).drew.cell? ⟨W.heap.size + 1, 0, none⟩ = some (.slice none 0 0)) := by unfold Hid; simp [go_sem]
  refine wp_region_held_drew (S := fun w' => (w'.cell? ⟨W.heap.size, 0, none⟩ = some (.bool n1) ∧ w'.cell? ⟨W.heap.size, 1, none⟩ = some (.int .i64 K1) ∧ w'.cell? ⟨W.heap.size, 2, none⟩ = some (.int .i64 X1) ∧ w'.cell? ⟨W.heap.size, 3, none⟩ = some (.int .u64 S1)) ∧ Room (W.heap.size + 1) 1 w') (by kernel_rfl) ?_ (fun hHeld => ?_)
  · (try dsimp only)
    exact ⟨unhide HA, unhide HR⟩
  refine lst0 9 (by kernel_rfl) ?_
  refine tkA 0 11 1 ?_
  refine tkA 1 12 3 ?_
  refine tkA 3 14 11 ?_
  refine tkA 4 15 27 ?_
  refine rdA 2 31 (fun Kk hKk => ?_)
  go_simp
  refine (refOf_any S1 _ (unhide HS).1 (unhide HS).2.1).mono ?_
  rintro _ w3 ⟨s3, rfl, hN, hbl⟩
  obtain ⟨a3, m3, c3, rfl⟩ := hN.slice
  have HB := hide (bthen (unhide HB) hbl)
  have HA := hide ((unhide HA).below hbl)
  have HR := hide ((unhide HR).below hbl)
  have HC := hide (keep1 hbl (lt_of_cell (unhide HC)) (unhide HC))
  have H3 := hide hN
  clear hbl hN
  (try go_wp2_with fail)
  refine hKk.out _ _ ?_ (fun hHeld => ?_)
  · (try dsimp only)
    exact ⟨unhide HA, unhide HR⟩
  clear hKk Kk
  (try simp only [List.setIfInBounds_toArray, List.set_cons_zero, List.set_cons_succ])
  refine rdA 5 63 (fun Kk hKk => ?_)
  go_simp
  refine (shl_int _ _ _ _ _ _ (unhide H3) (nat_word (unhide H3) (unhide HS).1 (unhide HS).2.1).1 (unhide HG) (unhide HS).2.2).mono ?_
  rintro _ w4 ⟨s4, rfl, hN, hbl⟩
  obtain ⟨a4, m4, c4, rfl⟩ := hN.slice
  have HB := hide (bthen (unhide HB) hbl)
  have HA := hide ((unhide HA).below hbl)
  have HR := hide ((unhide HR).below hbl)
  have HC := hide (keep1 hbl (lt_of_cell (unhide HC)) (unhide HC))
  have H4 := hide hN
  clear hbl hN
  (try go_wp2_with fail)
  refine hKk.out _ _ ?_ (fun hHeld => ?_)
  · (try dsimp only)
    exact ⟨unhide HA, unhide HR⟩
  clear hKk Kk
  (try simp only [List.setIfInBounds_toArray, List.set_cons_zero, List.set_cons_succ])
  refine rdA 6 127 (fun Kk hKk => ?_)
  obtain ⟨⟨v0, c0⟩, r0⟩ := hHeld.2 0 (by omega)
  go_simp
  refine hKk.out _ _ ?_ (fun hHeld => ?_)
  · (try dsimp only)
    exact ⟨At4.set hHeld.1 (by omega) _ _, hHeld.2.set _ _⟩
  clear hKk Kk
  (try simp only [List.setIfInBounds_toArray, List.set_cons_zero, List.set_cons_succ])
  refine tkA 7 3 255 ?_
  refine tkA 8 4 511 ?_
  refine wpAnyH_done (by kernel_rfl) ?_ _
  go_wp2
  exact bodyPost_ret (v := .tuple #[.agg #[.slice a4 m4 c4], .int .i64 (-1), .bool false]) (by simp [results, Try.results19, go_sem, c0]) rfl ⟨_, rfl, (unhide H4).store (unhide HC) _, bset (unhide HB) _ (by omega) _ _⟩

end Go.Proofs.Ytmbkpmcmhmldgaa
namespace Go.Proofs.Ytmbkpmcmhmldgaa
open Go.RowKit
open Go.Proofs.Ytmbkpmcmhmldgaa.W

theorem wsb (w0 : World) : W.Stable (fun w => Below w0.heap.size w0 w) := W.stable_below w0
theorem nat_lt_300 {S : Int} (h0 : 0 ≤ S) (h1 : S < 18446744073709551616) (u : Nat) : S.toNat % u < pw 300 := by
  have e : pw 2 = 18446744073709551616 := by decide +kernel
  exact Nat.lt_of_le_of_lt (Nat.mod_le _ _) (lt_pw 300 (show S.toNat < pw 2 by omega) (by omega))
/-- The variables of Down: the unit, the quotient, the rest, the result. -/
structure DnSt (W : World) (N bu bq br : Nat) (su sq sr : Value) (u q r : Nat) (w : World) : Prop where
  cu : w.cell? ⟨bu, 0, none⟩ = some su
  cq : w.cell? ⟨bq, 0, none⟩ = some sq
  cr : w.cell? ⟨br, 0, none⟩ = some sr
  nu : IsNat w su u
  nq : IsNat w sq q
  nr : IsNat w sr r
  cv : w.cell? ⟨N, 0, none⟩ = some (.slice none 0 0)
  fv : w.frozen? ⟨N, 0, none⟩ = false
  bel : Below W.heap.size W w
theorem DnSt.below {W : World} {N bu bq br : Nat} {su sq sr : Value} {u q r : Nat} {w w' : World} (h : DnSt W N bu bq br su sq sr u q r w) (hb : Below w.heap.size w w') : DnSt W N bu bq br su sq sr u q r w' :=
  { cu := keep1 hb (lt_of_cell h.cu) h.cu, cq := keep1 hb (lt_of_cell h.cq) h.cq, cr := keep1 hb (lt_of_cell h.cr) h.cr, nu := h.nu.below hb, nq := h.nq.below hb, nr := h.nr.below hb, cv := keep1 hb (lt_of_cell h.cv) h.cv, fv := (hb.frozen (lt_of_cell h.cv)).trans h.fv, bel := bthen h.bel hb }
theorem fresh_one {N b : Nat} {v : Value} {w : World} (h : Fresh N #[v] b w) : w.cell? ⟨b, 0, none⟩ = some v ∧ w.frozen? ⟨b, 0, none⟩ = false := ⟨h.cell 0 _ rfl, h.thawed 0⟩

set_option maxRecDepth 100000 in
set_option maxHeartbeats 2000000 in
theorem down_dn {K1 X1 S1 : Int} {n1 : Bool} (k : Nat) (W : World) (HS : Hid (0 ≤ S1 ∧ S1 < 18446744073709551616 ∧ k ≤ 5000)) (g : ¬ 0 ≤ X1) (kx : IntKind.i64.wrap (-X1) = (k : Int)) :
    Calls Try.prog 19 #[.agg #[.bool n1, .int .i64 K1, .int .i64 X1, .int .u64 S1]] W fun e w' => ∃ s, e = .returned (.tuple #[.agg #[s], .int .i64 (cmpN (S1.toNat % (1 * 2 ^ k) * 2 ^ 1) (1 * 2 ^ k)), .bool (decide (S1.toNat % (1 * 2 ^ k) ≠ 0))]) ∧ IsNat w' s (S1.toNat / (1 * 2 ^ k)) ∧ Below W.heap.size W w' := by
  go_enter Try.func19, Try.ntmps19
  go_wp2_with fail
  have HB := hide (below2 W (.cells #[.bool n1, .int .i64 K1, .int .i64 X1, .int .u64 S1] 44) (.cells #[.slice none 0 0] 48)).drew
  have HA := hide ((at4_new2a W (.bool n1) (.int .i64 K1) (.int .i64 X1) (.int .u64 S1) 44 (.cells #[.slice none 0 0] 48)).below ((Below.refl _ _).drew))
  have HC : Hid (((W.alloc (.cells #[.bool n1, .int .i64 K1, .int .i64 X1, .int .u64 S1] 44)).alloc (.cells #[.slice none 0 0] 48)).drew.cell? ⟨W.heap.size + 1, 0, none⟩ = some (.slice none 0 0) ∧ ((W.alloc (.cells #[.bool n1, .int .i64 K1, .int .i64 X1, .int .u64 S1] 44)).alloc (.cells #[.slice none 0 0] 48)).drew.frozen? ⟨W.heap.size + 1, 0, none⟩ = false) := ⟨by simp [go_sem], by simp [go_sem]⟩
  refine wp_region_held_drew (S := fun w' => (w'.cell? ⟨W.heap.size, 0, none⟩ = some (.bool n1) ∧ w'.cell? ⟨W.heap.size, 1, none⟩ = some (.int .i64 K1) ∧ w'.cell? ⟨W.heap.size, 2, none⟩ = some (.int .i64 X1) ∧ w'.cell? ⟨W.heap.size, 3, none⟩ = some (.int .u64 S1))) (by kernel_rfl) ?_ (fun hHeld => ?_)
  · (try dsimp only)
    exact unhide HA
  refine wo_start (N := W.heap.size + 2) (i1 := 5) (d1 := 5) (v1 := #[.slice none 0 0]) (t1 := 48) (f := 1) (n := 5) (T := fun w' => Below W.heap.size W w' ∧ (w'.cell? ⟨W.heap.size + 1, 0, none⟩ = some (.slice none 0 0) ∧ w'.frozen? ⟨W.heap.size + 1, 0, none⟩ = false)) (by kernel_rfl) (by kernel_rfl) (fun _ _ _ _ _ h => h) (stable_at4 _ _ _ _ _) ?_ ((wsb _).and (stable_var _ _)) hHeld (⟨unhide HB, unhide HC⟩) (by simp) ?_
  · intro a w K h
    unfold wpOp
    go_simp
    exact Or.inl h
  clear hHeld
  refine woA 1 18 ?_
  refine woA 2 19 ?_
  refine woA 3 20 ?_
  refine wo_call (c := 0) (o := { dst := some 17, op := _, type := _, pos := _, after := _, guard := _ }) rfl (by kernel_rfl) (by kernel_rfl) (fun u hSu hTu Kk hKk => ?_)
  go_simp
  refine (refOf_1 _).mono ?_
  rintro _ wn ⟨s1, rfl, hN1, hbl⟩
  obtain ⟨a1, m1, c1, rfl⟩ := hN1.slice
  have HTn := hide (And.intro hN1 ((wsb _).and (stable_var _ _) _ _ hTu hbl))
  clear hTu hSu hN1
  (try go_wp2_with fail)
  refine hKk.out _ _ (fun w' => IsNat w' (.slice a1 m1 c1) (1) ∧ Below W.heap.size W w' ∧ (w'.cell? ⟨W.heap.size + 1, 0, none⟩ = some (.slice none 0 0) ∧ w'.frozen? ⟨W.heap.size + 1, 0, none⟩ = false)) (by assumption) ((stable_nat _ _).and ((wsb _).and (stable_var _ _))) (unhide HTn) ?_
  clear hKk Kk HTn
  (try simp only [Act.put, List.setIfInBounds_toArray, List.set_cons_zero, List.set_cons_succ])
  refine wo_call (c := 4) (o := { dst := some 21, op := _, type := _, pos := _, after := _, guard := _ }) rfl (by kernel_rfl) (by kernel_rfl) (fun u hSu hTu Kk hKk => ?_)
  go_simp
  refine (refShl_any _ _ _ 1 k _ hTu.1 (nat_one hTu.1) (Nat.le_trans (unhide HS).2.2 (by omega))).mono ?_
  rintro _ wn ⟨s2, rfl, hN2, hbl⟩
  obtain ⟨a2, m2, c2, rfl⟩ := hN2.slice
  have HTn := hide (And.intro hN2 ((wsb _).and (stable_var _ _) _ _ hTu.2 hbl))
  clear hTu hSu hN2
  (try go_wp2_with fail)
  refine hKk.out _ _ (fun w' => IsNat w' (.slice a2 m2 c2) (1 * 2 ^ k) ∧ Below W.heap.size W w' ∧ (w'.cell? ⟨W.heap.size + 1, 0, none⟩ = some (.slice none 0 0) ∧ w'.frozen? ⟨W.heap.size + 1, 0, none⟩ = false)) (by assumption) ((stable_nat _ _).and ((wsb _).and (stable_var _ _))) (unhide HTn) ?_
  clear hKk Kk HTn
  (try simp only [Act.put, List.setIfInBounds_toArray, List.set_cons_zero, List.set_cons_succ])
  refine wo_fin (by kernel_rfl) (fun wf bu hSu hTu k1 => ?_)
  (try simp only [Act.put, List.setIfInBounds_toArray, List.set_cons_zero, List.set_cons_succ])
  unfold ptr
  have zb := k1.base
  obtain ⟨f0, f1⟩ := fresh_one k1
  refine lstm 7 63 (by kernel_rfl) ?_
  refine rdA 6 127 (fun Kk hKk => ?_)
  go_simp
  refine hKk.out _ _ ?_ (fun hHeld => ?_)
  · (try dsimp only)
    exact At4.set hSu (by omega) _ _
  clear hKk Kk
  (try simp only [Act.put, List.setIfInBounds_toArray, List.set_cons_zero, List.set_cons_succ])
  refine wpAnyH_done (by kernel_rfl) ?_ _
  have HB := hide (bset hTu.2.1 bu (by omega) 0 (.slice a2 m2 c2))
  have HA := hide (show At4 W.heap.size (.bool n1) (.int .i64 K1) (.int .i64 X1) (.int .u64 S1) _ from hHeld)
  have HU : Hid ((wf.setCell ⟨bu, 0, none⟩ (.slice a2 m2 c2)).cell? ⟨bu, 0, none⟩ = some (.slice a2 m2 c2)) := World.cell?_setCell_same _ _ _ f0
  have HN := hide (hTu.1.store f0 (.slice a2 m2 c2))
  have HC := hide (And.intro (keep_set bu 0 (.slice a2 m2 c2) (by omega) hTu.2.2.1) ((frozen_set wf ⟨bu, 0, none⟩ _ (.slice a2 m2 c2)).trans hTu.2.2.2))
  clear hHeld hSu hTu k1 f0 f1
  generalize wf.setCell ⟨bu, 0, none⟩ (.slice a2 m2 c2) = wx at *
  have HZ := hide (unhide HB).size
  go_wp2_with fail
  have HB := hide (unhide HB).drew
  have HA := hide ((unhide HA).below ((Below.refl _ _).drew))
  have HU := hide (keep1 ((Below.refl _ _).drew) (lt_of_cell (unhide HU)) (unhide HU))
  have HN := hide ((unhide HN).below ((Below.refl _ _).drew))
  have HC := hide ((stable_var _ _) _ _ (unhide HC) ((Below.refl _ _).drew))
  refine wp_region_held_drew (S := fun w' => (w'.cell? ⟨W.heap.size, 0, none⟩ = some (.bool n1) ∧ w'.cell? ⟨W.heap.size, 1, none⟩ = some (.int .i64 K1) ∧ w'.cell? ⟨W.heap.size, 2, none⟩ = some (.int .i64 X1) ∧ w'.cell? ⟨W.heap.size, 3, none⟩ = some (.int .u64 S1)) ∧ w'.cell? ⟨bu, 0, none⟩ = some (.slice a2 m2 c2)) (by kernel_rfl) ?_ (fun hHeld => ?_)
  · exact ⟨unhide HA, unhide HU⟩
  refine wu_start (N := bu + 1) (i1 := 8) (d1 := 6) (v1 := .slice none 0 0) (t1 := 48) (i2 := 9) (d2 := 7) (v2 := .slice none 0 0) (t2 := 48) (f := 2) (n := 8)
    (T := fun w' => IsNat w' (.slice a2 m2 c2) (1 * 2 ^ k) ∧ Below W.heap.size W w' ∧ (w'.cell? ⟨W.heap.size + 1, 0, none⟩ = some (.slice none 0 0) ∧ w'.frozen? ⟨W.heap.size + 1, 0, none⟩ = false))
    (by kernel_rfl) (by kernel_rfl) (fun _ _ _ _ _ h => h) (fun _ _ h hb => ⟨At4.below h.1 hb, keep1 hb (lt_of_cell h.2) h.2⟩) (by decide) (by decide) ?_ ?_ ((stable_nat _ _).and ((wsb _).and (stable_var _ _))) hHeld ?_ ?_ ?_
  · intro a w K h
    unfold wpOp
    go_simp
    exact Or.inl h
  · intro a w K h
    unfold wpOp
    go_simp
    exact Or.inl h
  · exact ⟨unhide HN, unhide HB, unhide HC⟩
  · exact lt_of_cell (unhide HU)
  clear hHeld
  refine wu_take (i := 0) (oi := { dst := some 23, op := _, type := _, pos := _, after := _, guard := _ }) rfl (by kernel_rfl) (by kernel_rfl) (fun _ _ _ h => h) (Or.inl ⟨by rfl, fun w hSw => by (try dsimp only at hSw); go_simp; with_reducible rfl⟩) ?_
  (try simp only [Act.put, List.setIfInBounds_toArray, List.set_cons_zero, List.set_cons_succ])
  refine wu_take (i := 1) (oi := { dst := some 24, op := _, type := _, pos := _, after := _, guard := _ }) rfl (by kernel_rfl) (by kernel_rfl) (fun _ _ _ h => h) (Or.inl ⟨by rfl, fun w hSw => by (try dsimp only at hSw); go_simp; with_reducible rfl⟩) ?_
  (try simp only [Act.put, List.setIfInBounds_toArray, List.set_cons_zero, List.set_cons_succ])
  refine wu_take (i := 3) (oi := { dst := some 26, op := _, type := _, pos := _, after := _, guard := _ }) rfl (by kernel_rfl) (by kernel_rfl) (fun _ _ _ h => h) (Or.inl ⟨by rfl, fun w hSw => by (try dsimp only at hSw); go_simp; with_reducible rfl⟩) ?_
  (try simp only [Act.put, List.setIfInBounds_toArray, List.set_cons_zero, List.set_cons_succ])
  refine wu_call (c := 2) (o := { dst := some 25, op := _, type := _, pos := _, after := _, guard := _ }) rfl (by kernel_rfl) (by kernel_rfl) (fun u hSu hTu K hK => ?_)
  go_simp
  refine (refOf_any S1 _ (unhide HS).1 (unhide HS).2.1).mono ?_
  rintro e w8 ⟨s8, rfl, hN8, hb8⟩
  obtain ⟨a8, m8, c8, rfl⟩ := hN8.slice
  have HT := hide (((stable_nat _ _).and ((wsb _).and (stable_var _ _))) _ _ hTu hb8)
  clear hTu hSu
  (try go_wp2_with fail)
  refine hK.out _ _ (fun w' => IsNat w' (.slice a8 m8 c8) (S1.toNat) ∧ IsNat w' (.slice a2 m2 c2) (1 * 2 ^ k) ∧ Below W.heap.size W w' ∧ (w'.cell? ⟨W.heap.size + 1, 0, none⟩ = some (.slice none 0 0) ∧ w'.frozen? ⟨W.heap.size + 1, 0, none⟩ = false)) (by assumption) ((stable_nat _ _).and ((stable_nat _ _).and ((wsb _).and (stable_var _ _)))) (⟨hN8, unhide HT⟩) ?_
  clear hK K
  (try simp only [Act.put, List.setIfInBounds_toArray, List.set_cons_zero, List.set_cons_succ])
  clear HT hN8
  refine wu_call (c := 4) (o := { dst := some 27, op := _, type := _, pos := _, after := _, guard := _ }) rfl (by kernel_rfl) (by kernel_rfl) (fun u hSu hTu K hK => ?_)
  go_simp
  refine (refDiv_any _ _ _ _ _ _ _ _ _ hTu.1 hTu.2.1 (pow_ne k) (nat_word hTu.1 (unhide HS).1 (unhide HS).2.1).2 (pow_pw (by have := (unhide HS).2.2; omega))).mono ?_
  rintro e w10 ⟨s10, s11, rfl, hN10, hN11, hb10⟩
  obtain ⟨a10, m10, c10, rfl⟩ := hN10.slice
  obtain ⟨a11, m11, c11, rfl⟩ := hN11.slice
  have HT := hide (((stable_nat _ _).and ((wsb _).and (stable_var _ _))) _ _ hTu.2 hb10)
  clear hTu hSu
  (try go_wp2_with fail)
  refine hK.out _ _ (fun w' => IsNat w' (.slice a10 m10 c10) (S1.toNat / (1 * 2 ^ k)) ∧ IsNat w' (.slice a11 m11 c11) (S1.toNat % (1 * 2 ^ k)) ∧ IsNat w' (.slice a2 m2 c2) (1 * 2 ^ k) ∧ Below W.heap.size W w' ∧ (w'.cell? ⟨W.heap.size + 1, 0, none⟩ = some (.slice none 0 0) ∧ w'.frozen? ⟨W.heap.size + 1, 0, none⟩ = false)) (by assumption) ((stable_nat _ _).and ((stable_nat _ _).and ((stable_nat _ _).and ((wsb _).and (stable_var _ _))))) (⟨hN10, hN11, unhide HT⟩) ?_
  clear hK K
  (try simp only [Act.put, List.setIfInBounds_toArray, List.set_cons_zero, List.set_cons_succ])
  clear HT hN10 hN11
  refine wu_take (i := 5) (oi := { dst := some 22, op := _, type := _, pos := _, after := _, guard := _ }) rfl (by kernel_rfl) (by kernel_rfl) (fun _ _ _ h => h) (Or.inl ⟨by rfl, fun w hSw => by (try dsimp only at hSw); go_simp; with_reducible rfl⟩) ?_
  (try simp only [Act.put, List.setIfInBounds_toArray, List.set_cons_zero, List.set_cons_succ])
  refine wu_take (i := 6) (oi := { dst := some 28, op := _, type := _, pos := _, after := _, guard := _ }) rfl (by kernel_rfl) (by kernel_rfl) (fun _ _ _ h => h) (Or.inl ⟨by rfl, fun w hSw => by (try dsimp only at hSw); go_simp; with_reducible rfl⟩) ?_
  (try simp only [Act.put, List.setIfInBounds_toArray, List.set_cons_zero, List.set_cons_succ])
  refine wu_take (i := 7) (oi := { dst := some 29, op := _, type := _, pos := _, after := _, guard := _ }) rfl (by kernel_rfl) (by kernel_rfl) (fun _ _ _ h => h) (Or.inl ⟨by rfl, fun w hSw => by (try dsimp only at hSw); go_simp; with_reducible rfl⟩) ?_
  (try simp only [Act.put, List.setIfInBounds_toArray, List.set_cons_zero, List.set_cons_succ])
  refine wu_fin (by kernel_rfl) (fun w11 bq br hb hSu hTu k1 k2 => ?_)
  (try simp only [Act.put, List.setIfInBounds_toArray, List.set_cons_zero, List.set_cons_succ])
  obtain ⟨h1, h2, h3, h4, h5, h6⟩ := hTu
  have e1 := k1.cell; have g1 := k1.thawed; have e2 := k2.cell; have g2 := k2.thawed
  have z1 := k1.base; have z2 := k2.base
  unfold Go.Proofs.Ytmbkpmcmhmldgaa.W.ptr
  have hc2 : (w11.setCell ⟨bq, 0, none⟩ (.slice a10 m10 c10)).cell? ⟨br, 0, none⟩ = some (.slice none 0 0) := by rw [World.cell?_setCell_other _ _ _ _ (by intro he; injection he with he1; omega)]; exact e2
  have hf2 : (w11.setCell ⟨bq, 0, none⟩ (.slice a10 m10 c10)).frozen? ⟨br, 0, none⟩ = false := by rw [frozen_set]; exact g2
  refine lstm 12 1023 (by kernel_rfl) ?_
  refine rdA 10 2047 (fun K hK => ?_)
  go_simp
  refine hK.out _ _ ?_ (fun hHeld => ?_)
  · exact ⟨At4.set hSu.1 (by omega) _ _, keep_set _ _ _ (by omega) hSu.2⟩
  clear hK K
  refine rdA 11 4095 (fun K hK => ?_)
  go_simp
  refine hK.out _ _ ⟨At4.set hHeld.1 (by omega) _ _, keep_set _ _ _ (by omega) hHeld.2⟩ (fun hHeld => ?_)
  clear hK K
  refine wpAnyH_done (by kernel_rfl) ?_ _
  have HD : Hid (DnSt W (W.heap.size + 1) bu bq br (.slice a2 m2 c2) (.slice a10 m10 c10) (.slice a11 m11 c11) (1 * 2 ^ k) (S1.toNat / (1 * 2 ^ k)) (S1.toNat % (1 * 2 ^ k)) ((w11.setCell ⟨bq, 0, none⟩ (.slice a10 m10 c10)).setCell ⟨br, 0, none⟩ (.slice a11 m11 c11))) :=
    { cu := hHeld.2, cq := keep_set _ _ _ (by omega) (World.cell?_setCell_same _ _ _ e1), cr := World.cell?_setCell_same _ _ _ hc2, nu := store_two h3 e1 e2 hb _ _, nq := store_two h1 e1 e2 hb _ _, nr := store_two h2 e1 e2 hb _ _,
       cv := keep_set _ _ _ (by omega) (keep_set _ _ _ (by omega) h5), fv := by rw [frozen_set, frozen_set]; exact h6, bel := bset (bset h4 _ (by omega) _ _) _ (by omega) _ _ }
  clear hHeld hSu hc2 hf2 e1 e2 g1 g2 h1 h2 h3 h4 h5 h6 k1 k2
  generalize ((w11.setCell ⟨bq, 0, none⟩ (.slice a10 m10 c10)).setCell ⟨br, 0, none⟩ (.slice a11 m11 c11)) = wy at *
  have HNE : Hid (bu ≠ W.heap.size + 1 ∧ bq ≠ W.heap.size + 1 ∧ br ≠ W.heap.size + 1) := ⟨by omega, by omega, by omega⟩
  have HQ := hide (nat_lt_300 (unhide HS).1 (unhide HS).2.1 (1 * 2 ^ k))
  go_wp2_with fail
  have HD := hide ((unhide HD).below ((Below.refl _ _).drew))
  refine wp_region_held_drew (S := fun w' => w'.cell? ⟨bu, 0, none⟩ = some (.slice a2 m2 c2) ∧ w'.cell? ⟨bq, 0, none⟩ = some (.slice a10 m10 c10) ∧ w'.cell? ⟨br, 0, none⟩ = some (.slice a11 m11 c11) ∧ Room (W.heap.size + 1) 1 w') (by kernel_rfl) ?_ (fun hHeld => ?_)
  · (try dsimp only)
    exact ⟨(unhide HD).cu, (unhide HD).cq, (unhide HD).cr, room1 (unhide HD).cv (unhide HD).fv⟩
  refine lst0 12 (by kernel_rfl) ?_
  refine tkA 0 30 1 ?_
  refine tkA 1 31 3 ?_
  refine tkA 3 33 11 ?_
  refine tkA 5 35 43 ?_
  refine tkA 6 36 107 ?_
  refine tkA 7 37 235 ?_
  refine tkA 8 38 491 ?_
  refine rdA 2 495 (fun Kk hKk => ?_)
  go_simp
  refine (shl_one _ _ _ _ _ (unhide HD).nr (Nat.le_trans ((unhide HD).nr.short (unhide HQ)) (by omega))).mono ?_
  rintro _ w3 ⟨s3, rfl, hN3, hbl⟩
  obtain ⟨a3, m3, c3, rfl⟩ := hN3.slice
  have H3 := hide hN3
  have HD := hide ((unhide HD).below hbl)
  clear hbl hN3
  (try go_wp2_with fail)
  refine hKk.out _ _ ?_ (fun hHeld => ?_)
  · (try dsimp only)
    exact ⟨(unhide HD).cu, (unhide HD).cq, (unhide HD).cr, room1 (unhide HD).cv (unhide HD).fv⟩
  clear hKk Kk
  (try simp only [List.setIfInBounds_toArray, List.set_cons_zero, List.set_cons_succ])
  refine rdA 4 511 (fun Kk hKk => ?_)
  go_simp
  refine (refCmp_any _ _ _ _ _ _ _ _ _ (unhide H3) (unhide HD).nu).mono ?_
  rintro _ w4 ⟨rfl, hbl⟩
  have HD := hide ((unhide HD).below hbl)
  clear hbl H3
  (try go_wp2_with fail)
  refine hKk.out _ _ ?_ (fun hHeld => ?_)
  · (try dsimp only)
    exact ⟨(unhide HD).cu, (unhide HD).cq, (unhide HD).cr, room1 (unhide HD).cv (unhide HD).fv⟩
  clear hKk Kk
  (try simp only [List.setIfInBounds_toArray, List.set_cons_zero, List.set_cons_succ])
  refine rdA 9 1023 (fun Kk hKk => ?_)
  obtain ⟨⟨v0, c0⟩, r0⟩ := hHeld.2.2.2 0 (by omega)
  go_simp
  refine hKk.out _ _ ?_ (fun hHeld => ?_)
  · (try dsimp only)
    exact ⟨keep_set _ _ _ (unhide HNE).1 hHeld.1, keep_set _ _ _ (unhide HNE).2.1 hHeld.2.1, keep_set _ _ _ (unhide HNE).2.2 hHeld.2.2.1, hHeld.2.2.2.set _ _⟩
  clear hKk Kk
  (try simp only [List.setIfInBounds_toArray, List.set_cons_zero, List.set_cons_succ])
  refine tkA 10 3 2047 ?_
  refine tkA 11 4 4095 ?_
  refine wpAnyH_done (by kernel_rfl) ?_ _
  go_wp2
  refine bodyPost_ret (v := .tuple #[.agg #[.slice a10 m10 c10], .int .i64 (cmpN (S1.toNat % (1 * 2 ^ k) * 2 ^ 1) (1 * 2 ^ k)), .bool (decide ((0 : Int) < (m11 : Int)))]) (by simp [results, Try.results19, go_sem, c0]) rfl ⟨.slice a10 m10 c10, ?_, (unhide HD).nq.store (unhide HD).cv _, bset (unhide HD).bel _ (by omega) _ _⟩
  have h := (unhide HD).nr.pos
  simp only [← h]
  simp

end Go.Proofs.Ytmbkpmcmhmldgaa
namespace Go.Proofs.Ytmbkpmcmhmldgaa
open Go.RowKit
open Go.Proofs.Ytmbkpmcmhmldgaa.W

set_option maxHeartbeats 4000000 in
set_option maxRecDepth 100000 in
theorem low_t {k j T : Int} (W : World) (h : IntKind.i64.wrap (k - 1) = j) (HT : Ct 16 #[.int .i64 j] (.int .u64 T)) :
    Calls Try.prog 10 #[.int .i64 k, .bool true] W fun r W' => r = .returned (.int .u64 T) ∧ Below W.heap.size W W' := by
  have HB := hide (Below.refl W.heap.size W)
  go_enter Try.func10, Try.ntmps10
  go_wp2_with fail
  refine (unhide HT _).mono ?_
  rintro _ w1 ⟨rfl, hb⟩
  have HB := hide (bthen (unhide HB) hb)
  clear hb
  go_wp2_with fail
  go_ret
  exact ⟨rfl, unhide HB⟩
set_option maxHeartbeats 4000000 in
set_option maxRecDepth 100000 in
theorem low_f {k : Int} (W : World)  :
    Calls Try.prog 10 #[.int .i64 k, .bool false] W fun r W' => r = .returned (.int .u64 0) ∧ Below W.heap.size W W' := by
  have HB := hide (Below.refl W.heap.size W)
  go_enter Try.func10, Try.ntmps10
  go_wp2_with fail
  go_ret
  exact ⟨rfl, unhide HB⟩
set_option maxHeartbeats 4000000 in
set_option maxRecDepth 100000 in
theorem high_t {k j T V : Int} (W : World) (h : IntKind.i64.wrap (k - 1) = j) (HT : Ct 16 #[.int .i64 j] (.int .u64 T)) (h1 : IntKind.u64.wrap (T - 1) = V) :
    Calls Try.prog 11 #[.int .i64 k, .bool true] W fun r W' => r = .returned (.int .u64 V) ∧ Below W.heap.size W W' := by
  have HB := hide (Below.refl W.heap.size W)
  go_enter Try.func11, Try.ntmps11
  go_wp2_with fail
  refine (unhide HT _).mono ?_
  rintro _ w1 ⟨rfl, hb⟩
  have HB := hide (bthen (unhide HB) hb)
  clear hb
  go_wp2_with fail
  go_ret
  exact ⟨rfl, unhide HB⟩
set_option maxHeartbeats 4000000 in
set_option maxRecDepth 100000 in
theorem high_f {k j T V V2 : Int} (W : World) (h : IntKind.i64.wrap (k - 1) = j) (HT : Ct 16 #[.int .i64 j] (.int .u64 T)) (h1 : IntKind.u64.wrap (T - 1) = V) (h2 : IntKind.u64.wrap (V + T) = V2) :
    Calls Try.prog 11 #[.int .i64 k, .bool false] W fun r W' => r = .returned (.int .u64 V2) ∧ Below W.heap.size W W' := by
  have HB := hide (Below.refl W.heap.size W)
  go_enter Try.func11, Try.ntmps11
  go_wp2_with fail
  refine (unhide HT _).mono ?_
  rintro _ w1 ⟨rfl, hb⟩
  have HB := hide (bthen (unhide HB) hb)
  clear hb
  go_wp2_with fail
  go_ret
  exact ⟨rfl, unhide HB⟩
end Go.Proofs.Ytmbkpmcmhmldgaa
namespace Go.Proofs.Ytmbkpmcmhmldgaa
open Go.RowKit
open Go.Proofs.Ytmbkpmcmhmldgaa.W

set_option maxHeartbeats 4000000 in
set_option maxRecDepth 100000 in
theorem rchop_nan_t {w k x X S : Int} {s : Bool} (W : World) (HO : Ct 17 #[.int .i64 w, .int .u64 x] (.agg #[.bool true, .int .i64 3, .int .i64 X, .int .u64 S])) :
    Calls Try.prog 12 #[.int .i64 w, .int .i64 k, .int .u64 x, .bool s] W fun r W' => r = .returned (.tuple #[.int .i64 1, .int .u64 0]) ∧ Below W.heap.size W W' := by
  go_enter Try.func12, Try.ntmps12
  go_wp2_with fail
  refine (unhide HO _).mono ?_
  rintro _ w1 ⟨rfl, hb⟩
  have zw := hb.size
  have HB := hide (balloc hb (.cells #[.bool true, .int .i64 3, .int .i64 X, .int .u64 S] 44))
  have HA := hide (at4_new w1 (.bool true) (.int .i64 3) (.int .i64 X) (.int .u64 S) 44)
  clear hb
  obtain ⟨c0, c1, c2, c3⟩ := unhide HA
  go_wp2_with fail
  clear c0 c1 c2 c3
  go_ret2
  exact ⟨rfl, unhide HB⟩
set_option maxHeartbeats 4000000 in
set_option maxRecDepth 100000 in
theorem rchop_nan_f {w k x X S : Int} {s : Bool} (W : World) (HO : Ct 17 #[.int .i64 w, .int .u64 x] (.agg #[.bool false, .int .i64 3, .int .i64 X, .int .u64 S])) :
    Calls Try.prog 12 #[.int .i64 w, .int .i64 k, .int .u64 x, .bool s] W fun r W' => r = .returned (.tuple #[.int .i64 1, .int .u64 0]) ∧ Below W.heap.size W W' := by
  go_enter Try.func12, Try.ntmps12
  go_wp2_with fail
  refine (unhide HO _).mono ?_
  rintro _ w1 ⟨rfl, hb⟩
  have zw := hb.size
  have HB := hide (balloc hb (.cells #[.bool false, .int .i64 3, .int .i64 X, .int .u64 S] 44))
  have HA := hide (at4_new w1 (.bool false) (.int .i64 3) (.int .i64 X) (.int .u64 S) 44)
  clear hb
  obtain ⟨c0, c1, c2, c3⟩ := unhide HA
  go_wp2_with fail
  clear c0 c1 c2 c3
  go_ret2
  exact ⟨rfl, unhide HB⟩
set_option maxHeartbeats 4000000 in
set_option maxRecDepth 100000 in
theorem rchop_inf_t {w k x X S : Int} {s : Bool} (W : World) (HO : Ct 17 #[.int .i64 w, .int .u64 x] (.agg #[.bool true, .int .i64 2, .int .i64 X, .int .u64 S])) :
    Calls Try.prog 12 #[.int .i64 w, .int .i64 k, .int .u64 x, .bool s] W fun r W' => r = .returned (.tuple #[.int .i64 2, .int .u64 0]) ∧ Below W.heap.size W W' := by
  go_enter Try.func12, Try.ntmps12
  go_wp2_with fail
  refine (unhide HO _).mono ?_
  rintro _ w1 ⟨rfl, hb⟩
  have zw := hb.size
  have HB := hide (balloc hb (.cells #[.bool true, .int .i64 2, .int .i64 X, .int .u64 S] 44))
  have HA := hide (at4_new w1 (.bool true) (.int .i64 2) (.int .i64 X) (.int .u64 S) 44)
  clear hb
  obtain ⟨c0, c1, c2, c3⟩ := unhide HA
  go_wp2_with fail
  clear c0 c1 c2 c3
  refine (refOf_any 0 _ (by omega) (by omega)).mono ?_
  rintro _ w2 ⟨s2, rfl, hN, hb⟩
  obtain ⟨a2, m2, c2, rfl⟩ := hN.slice
  change IsNat _ _ 0 at hN
  have HB := hide (balloc (bthen (unhide HB) hb) (.cells #[.slice a2 m2 c2] 48))
  have HA := hide (((unhide HA).below hb).below (below1 w2 (.cells #[.slice a2 m2 c2] 48)))
  have HN := hide (hN.below (below1 w2 (.cells #[.slice a2 m2 c2] 48)))
  have HC0 : Hid ((w2.alloc (.cells #[.slice a2 m2 c2] 48)).cell? ⟨w2.heap.size, 0, none⟩ = some (.slice a2 m2 c2) ∧ (w2.alloc (.cells #[.slice a2 m2 c2] 48)).frozen? ⟨w2.heap.size, 0, none⟩ = false) := by unfold Hid; simp [go_sem]
  have zb : w1.heap.size < w2.heap.size := by have := hb.size; simp at this; omega
  clear hb hN
  generalize hx2 : w2.heap.size = b2 at *
  obtain ⟨c0, c1, c2', c3⟩ := unhide HA
  go_wp2_with fail
  clear c0 c1 c2' c3
  have HC0 := hide (unhide HC0).1
  generalize w2.alloc (.cells #[.slice a2 m2 c2] 48) = w4 at *
  have HB := hide ((unhide HB).drew)
  have HA := hide ((unhide HA).below ((Below.refl _ _).drew))
  have HN := hide ((unhide HN).below ((Below.refl _ _).drew))
  have HC0 := hide (keep1 ((Below.refl _ _).drew) (lt_of_cell (unhide HC0)) (unhide HC0))
  refine wp_region_held_drew (S := fun w' => (w'.cell? ⟨w1.heap.size, 0, none⟩ = some (.bool true) ∧ w'.cell? ⟨w1.heap.size, 1, none⟩ = some (.int .i64 2) ∧ w'.cell? ⟨w1.heap.size, 2, none⟩ = some (.int .i64 X) ∧ w'.cell? ⟨w1.heap.size, 3, none⟩ = some (.int .u64 S)) ∧ w'.cell? ⟨b2, 0, none⟩ = some (.slice a2 m2 c2)) (by kernel_rfl) ?_ (fun hHeld => ?_)
  · (try dsimp only)
    exact ⟨unhide HA, unhide HC0⟩
  refine lst0 16 (by kernel_rfl) ?_
  refine tkA 0 29 1 ?_
  refine tkA 1 30 3 ?_
  refine tkA 2 31 7 ?_
  refine tkA 3 32 15 ?_
  refine tkA 4 33 31 ?_
  refine tkA 5 34 63 ?_
  refine tkA 6 35 127 ?_
  refine tkU 7 36 255 ?_
  refine tkU 8 37 511 ?_
  refine tkU 9 38 1023 ?_
  refine rdA 10 2047 (fun Kk hKk => ?_)
  go_simp
  refine hKk.out _ _ ?_ (fun hHeld => ?_)
  · (try dsimp only)
    exact hHeld
  clear hKk Kk
  (try simp only [List.setIfInBounds_toArray, List.set_cons_zero, List.set_cons_succ])
  refine rdA 11 4095 (fun Kk hKk => ?_)
  go_simp
  refine hKk.out _ _ ?_ (fun hHeld => ?_)
  · (try dsimp only)
    exact hHeld
  clear hKk Kk
  (try simp only [List.setIfInBounds_toArray, List.set_cons_zero, List.set_cons_succ])
  refine rdA 12 8191 (fun Kk hKk => ?_)
  go_simp
  refine hKk.out _ _ ?_ (fun hHeld => ?_)
  · (try dsimp only)
    exact hHeld
  clear hKk Kk
  (try simp only [List.setIfInBounds_toArray, List.set_cons_zero, List.set_cons_succ])
  refine tkU 13 42 16383 ?_
  refine tkA 14 43 32767 ?_
  refine tkA 15 44 65535 ?_
  refine wpAnyH_done (by kernel_rfl) ?_ _
  clear hHeld
  go_wp2_with fail
  go_ret2
  exact ⟨rfl, unhide HB⟩
set_option maxHeartbeats 4000000 in
set_option maxRecDepth 100000 in
theorem rchop_inf_f {w k x X S : Int} {s : Bool} (W : World) (HO : Ct 17 #[.int .i64 w, .int .u64 x] (.agg #[.bool false, .int .i64 2, .int .i64 X, .int .u64 S])) :
    Calls Try.prog 12 #[.int .i64 w, .int .i64 k, .int .u64 x, .bool s] W fun r W' => r = .returned (.tuple #[.int .i64 3, .int .u64 0]) ∧ Below W.heap.size W W' := by
  go_enter Try.func12, Try.ntmps12
  go_wp2_with fail
  refine (unhide HO _).mono ?_
  rintro _ w1 ⟨rfl, hb⟩
  have zw := hb.size
  have HB := hide (balloc hb (.cells #[.bool false, .int .i64 2, .int .i64 X, .int .u64 S] 44))
  have HA := hide (at4_new w1 (.bool false) (.int .i64 2) (.int .i64 X) (.int .u64 S) 44)
  clear hb
  obtain ⟨c0, c1, c2, c3⟩ := unhide HA
  go_wp2_with fail
  clear c0 c1 c2 c3
  refine (refOf_any 0 _ (by omega) (by omega)).mono ?_
  rintro _ w2 ⟨s2, rfl, hN, hb⟩
  obtain ⟨a2, m2, c2, rfl⟩ := hN.slice
  change IsNat _ _ 0 at hN
  have HB := hide (balloc (bthen (unhide HB) hb) (.cells #[.slice a2 m2 c2] 48))
  have HA := hide (((unhide HA).below hb).below (below1 w2 (.cells #[.slice a2 m2 c2] 48)))
  have HN := hide (hN.below (below1 w2 (.cells #[.slice a2 m2 c2] 48)))
  have HC0 : Hid ((w2.alloc (.cells #[.slice a2 m2 c2] 48)).cell? ⟨w2.heap.size, 0, none⟩ = some (.slice a2 m2 c2) ∧ (w2.alloc (.cells #[.slice a2 m2 c2] 48)).frozen? ⟨w2.heap.size, 0, none⟩ = false) := by unfold Hid; simp [go_sem]
  have zb : w1.heap.size < w2.heap.size := by have := hb.size; simp at this; omega
  clear hb hN
  generalize hx2 : w2.heap.size = b2 at *
  obtain ⟨c0, c1, c2', c3⟩ := unhide HA
  go_wp2_with fail
  clear c0 c1 c2' c3
  have HC0 := hide (unhide HC0).1
  generalize w2.alloc (.cells #[.slice a2 m2 c2] 48) = w4 at *
  have HB := hide ((unhide HB).drew)
  have HA := hide ((unhide HA).below ((Below.refl _ _).drew))
  have HN := hide ((unhide HN).below ((Below.refl _ _).drew))
  have HC0 := hide (keep1 ((Below.refl _ _).drew) (lt_of_cell (unhide HC0)) (unhide HC0))
  refine wp_region_held_drew (S := fun w' => (w'.cell? ⟨w1.heap.size, 0, none⟩ = some (.bool false) ∧ w'.cell? ⟨w1.heap.size, 1, none⟩ = some (.int .i64 2) ∧ w'.cell? ⟨w1.heap.size, 2, none⟩ = some (.int .i64 X) ∧ w'.cell? ⟨w1.heap.size, 3, none⟩ = some (.int .u64 S)) ∧ w'.cell? ⟨b2, 0, none⟩ = some (.slice a2 m2 c2)) (by kernel_rfl) ?_ (fun hHeld => ?_)
  · (try dsimp only)
    exact ⟨unhide HA, unhide HC0⟩
  refine lst0 16 (by kernel_rfl) ?_
  refine tkA 0 29 1 ?_
  refine tkA 1 30 3 ?_
  refine tkA 2 31 7 ?_
  refine tkU 3 32 15 ?_
  refine tkU 4 33 31 ?_
  refine tkU 5 34 63 ?_
  refine tkU 6 35 127 ?_
  refine tkU 7 36 255 ?_
  refine tkU 8 37 511 ?_
  refine tkU 9 38 1023 ?_
  refine rdA 10 2047 (fun Kk hKk => ?_)
  go_simp
  refine hKk.out _ _ ?_ (fun hHeld => ?_)
  · (try dsimp only)
    exact hHeld
  clear hKk Kk
  (try simp only [List.setIfInBounds_toArray, List.set_cons_zero, List.set_cons_succ])
  refine rdA 11 4095 (fun Kk hKk => ?_)
  go_simp
  refine hKk.out _ _ ?_ (fun hHeld => ?_)
  · (try dsimp only)
    exact hHeld
  clear hKk Kk
  (try simp only [List.setIfInBounds_toArray, List.set_cons_zero, List.set_cons_succ])
  refine rdA 12 8191 (fun Kk hKk => ?_)
  go_simp
  refine hKk.out _ _ ?_ (fun hHeld => ?_)
  · (try dsimp only)
    exact hHeld
  clear hKk Kk
  (try simp only [List.setIfInBounds_toArray, List.set_cons_zero, List.set_cons_succ])
  refine tkU 13 42 16383 ?_
  refine tkU 14 43 32767 ?_
  refine tkA 15 44 65535 ?_
  refine wpAnyH_done (by kernel_rfl) ?_ _
  clear hHeld
  obtain ⟨e0, e1, e2, e3⟩ := unhide HA
  have e4 := unhide HC0
  go_wp2_with fail
  clear e0 e1 e2 e3 e4
  have HB := hide ((unhide HB).drew)
  have HA := hide ((unhide HA).below ((Below.refl _ _).drew))
  have HN := hide ((unhide HN).below ((Below.refl _ _).drew))
  have HC0 := hide (keep1 ((Below.refl _ _).drew) (lt_of_cell (unhide HC0)) (unhide HC0))
  refine wp_region_held_drew (S := fun w' => (w'.cell? ⟨w1.heap.size, 0, none⟩ = some (.bool false) ∧ w'.cell? ⟨w1.heap.size, 1, none⟩ = some (.int .i64 2) ∧ w'.cell? ⟨w1.heap.size, 2, none⟩ = some (.int .i64 X) ∧ w'.cell? ⟨w1.heap.size, 3, none⟩ = some (.int .u64 S)) ∧ w'.cell? ⟨b2, 0, none⟩ = some (.slice a2 m2 c2)) (by kernel_rfl) ?_ (fun hHeld => ?_)
  · (try dsimp only)
    exact ⟨unhide HA, unhide HC0⟩
  refine lst0 17 (by kernel_rfl) ?_
  refine tkA 0 45 1 ?_
  refine tkA 1 46 3 ?_
  refine tkA 2 47 7 ?_
  refine tkA 3 48 15 ?_
  refine tkA 4 49 31 ?_
  refine tkA 5 50 63 ?_
  refine tkA 6 51 127 ?_
  refine tkA 7 52 255 ?_
  refine tkU 8 53 511 ?_
  refine tkU 9 54 1023 ?_
  refine tkU 10 55 2047 ?_
  refine rdA 11 4095 (fun Kk hKk => ?_)
  go_simp
  refine hKk.out _ _ ?_ (fun hHeld => ?_)
  · (try dsimp only)
    exact hHeld
  clear hKk Kk
  (try simp only [List.setIfInBounds_toArray, List.set_cons_zero, List.set_cons_succ])
  refine rdA 12 8191 (fun Kk hKk => ?_)
  go_simp
  refine hKk.out _ _ ?_ (fun hHeld => ?_)
  · (try dsimp only)
    exact hHeld
  clear hKk Kk
  (try simp only [List.setIfInBounds_toArray, List.set_cons_zero, List.set_cons_succ])
  refine rdA 13 16383 (fun Kk hKk => ?_)
  go_simp
  refine hKk.out _ _ ?_ (fun hHeld => ?_)
  · (try dsimp only)
    exact hHeld
  clear hKk Kk
  (try simp only [List.setIfInBounds_toArray, List.set_cons_zero, List.set_cons_succ])
  refine tkU 14 59 32767 ?_
  refine tkA 15 60 65535 ?_
  refine tkA 16 61 131071 ?_
  refine wpAnyH_done (by kernel_rfl) ?_ _
  clear hHeld
  go_wp2_with fail
  go_ret2
  exact ⟨rfl, unhide HB⟩
set_option maxHeartbeats 4000000 in
set_option maxRecDepth 100000 in
theorem rchop_zero_t {w k x X S L m V : Int} {s : Bool} (W : World) (HO : Ct 17 #[.int .i64 w, .int .u64 x] (.agg #[.bool true, .int .i64 0, .int .i64 X, .int .u64 S])) (HE : Ct 10 #[.int .i64 k, .bool s] (.int .u64 L)) (L0 : 0 ≤ L) (L1 : L < 18446744073709551616) (g : decide (0 < cmpN 0 L.toNat) = false) (hm : lo 0 = m) (gm : decide (0 < m) = false) (HC : Ct 22 #[.int .i64 k, .int .u64 m] (.int .u64 V)) :
    Calls Try.prog 12 #[.int .i64 w, .int .i64 k, .int .u64 x, .bool s] W fun r W' => r = .returned (.tuple #[.int .i64 0, .int .u64 V]) ∧ Below W.heap.size W W' := by
  go_enter Try.func12, Try.ntmps12
  go_wp2_with fail
  refine (unhide HO _).mono ?_
  rintro _ w1 ⟨rfl, hb⟩
  have zw := hb.size
  have HB := hide (balloc hb (.cells #[.bool true, .int .i64 0, .int .i64 X, .int .u64 S] 44))
  have HA := hide (at4_new w1 (.bool true) (.int .i64 0) (.int .i64 X) (.int .u64 S) 44)
  clear hb
  obtain ⟨c0, c1, c2, c3⟩ := unhide HA
  go_wp2_with fail
  clear c0 c1 c2 c3
  refine (refOf_any 0 _ (by omega) (by omega)).mono ?_
  rintro _ w2 ⟨s2, rfl, hN, hb⟩
  obtain ⟨a2, m2, c2, rfl⟩ := hN.slice
  change IsNat _ _ 0 at hN
  have HB := hide (balloc (bthen (unhide HB) hb) (.cells #[.slice a2 m2 c2] 48))
  have HA := hide (((unhide HA).below hb).below (below1 w2 (.cells #[.slice a2 m2 c2] 48)))
  have HN := hide (hN.below (below1 w2 (.cells #[.slice a2 m2 c2] 48)))
  have HC0 : Hid ((w2.alloc (.cells #[.slice a2 m2 c2] 48)).cell? ⟨w2.heap.size, 0, none⟩ = some (.slice a2 m2 c2) ∧ (w2.alloc (.cells #[.slice a2 m2 c2] 48)).frozen? ⟨w2.heap.size, 0, none⟩ = false) := by unfold Hid; simp [go_sem]
  have zb : w1.heap.size < w2.heap.size := by have := hb.size; simp at this; omega
  clear hb hN
  generalize hx2 : w2.heap.size = b2 at *
  obtain ⟨c0, c1, c2', c3⟩ := unhide HA
  go_wp2_with fail
  clear c0 c1 c2' c3
  have HC0 := hide (unhide HC0).1
  generalize w2.alloc (.cells #[.slice a2 m2 c2] 48) = w4 at *
  have HB := hide ((unhide HB).drew)
  have HA := hide ((unhide HA).below ((Below.refl _ _).drew))
  have HN := hide ((unhide HN).below ((Below.refl _ _).drew))
  have HC0 := hide (keep1 ((Below.refl _ _).drew) (lt_of_cell (unhide HC0)) (unhide HC0))
  refine wp_region_held_drew (S := fun w' => (w'.cell? ⟨w1.heap.size, 0, none⟩ = some (.bool true) ∧ w'.cell? ⟨w1.heap.size, 1, none⟩ = some (.int .i64 0) ∧ w'.cell? ⟨w1.heap.size, 2, none⟩ = some (.int .i64 X) ∧ w'.cell? ⟨w1.heap.size, 3, none⟩ = some (.int .u64 S)) ∧ w'.cell? ⟨b2, 0, none⟩ = some (.slice a2 m2 c2)) (by kernel_rfl) ?_ (fun hHeld => ?_)
  · (try dsimp only)
    exact ⟨unhide HA, unhide HC0⟩
  refine lst0 16 (by kernel_rfl) ?_
  refine tkA 0 29 1 ?_
  refine tkA 1 30 3 ?_
  refine tkA 2 31 7 ?_
  refine tkA 3 32 15 ?_
  refine tkA 4 33 31 ?_
  refine tkA 5 34 63 ?_
  refine tkA 6 35 127 ?_
  refine tkA 7 36 255 ?_
  refine tkA 8 37 511 ?_
  refine tkA 9 38 1023 ?_
  refine rdA 10 2047 (fun Kk hKk => ?_)
  go_simp
  refine (unhide HE _).mono ?_
  rintro _ w5 ⟨rfl, hb⟩
  have HB := hide (bthen (unhide HB) hb)
  have HA := hide ((unhide HA).below hb)
  have HN := hide ((unhide HN).below hb)
  have HC0 := hide (keep1 hb (lt_of_cell (unhide HC0)) (unhide HC0))
  clear hb
  (try go_wp2_with fail)
  refine hKk.out _ _ ?_ (fun hHeld => ?_)
  · (try dsimp only)
    exact ⟨unhide HA, unhide HC0⟩
  clear hKk Kk
  (try simp only [List.setIfInBounds_toArray, List.set_cons_zero, List.set_cons_succ])
  refine rdA 11 4095 (fun Kk hKk => ?_)
  go_simp
  refine (refOf_any L _ L0 L1).mono ?_
  rintro _ w6 ⟨s6, rfl, hN, hb⟩
  obtain ⟨a6, m6, c6, rfl⟩ := hN.slice
  have HB := hide (bthen (unhide HB) hb)
  have HA := hide ((unhide HA).below hb)
  have HN := hide ((unhide HN).below hb)
  have HC0 := hide (keep1 hb (lt_of_cell (unhide HC0)) (unhide HC0))
  have H6 := hide hN
  clear hb hN
  (try go_wp2_with fail)
  refine hKk.out _ _ ?_ (fun hHeld => ?_)
  · (try dsimp only)
    exact ⟨unhide HA, unhide HC0⟩
  clear hKk Kk
  (try simp only [List.setIfInBounds_toArray, List.set_cons_zero, List.set_cons_succ])
  refine rdA 12 8191 (fun Kk hKk => ?_)
  go_simp
  refine (refCmp_any _ _ _ _ _ _ _ _ _ (unhide HN) (unhide H6)).mono ?_
  rintro _ w7 ⟨rfl, hb⟩
  have HB := hide (bthen (unhide HB) hb)
  have HA := hide ((unhide HA).below hb)
  have HN := hide ((unhide HN).below hb)
  have HC0 := hide (keep1 hb (lt_of_cell (unhide HC0)) (unhide HC0))
  clear hb H6
  (try go_wp2_with fail)
  refine hKk.out _ _ ?_ (fun hHeld => ?_)
  · (try dsimp only)
    exact ⟨unhide HA, unhide HC0⟩
  clear hKk Kk
  (try simp only [List.setIfInBounds_toArray, List.set_cons_zero, List.set_cons_succ])
  refine tkA 13 42 16383 ?_
  refine tkA 14 43 32767 ?_
  refine tkA 15 44 65535 ?_
  refine wpAnyH_done (by kernel_rfl) ?_ _
  clear hHeld
  obtain ⟨e0, e1, e2, e3⟩ := unhide HA
  have e4 := unhide HC0
  go_wp2_with fail
  clear e0 e1 e2 e3 e4
  have HB := hide ((unhide HB).drew)
  have HA := hide ((unhide HA).below ((Below.refl _ _).drew))
  have HN := hide ((unhide HN).below ((Below.refl _ _).drew))
  have HC0 := hide (keep1 ((Below.refl _ _).drew) (lt_of_cell (unhide HC0)) (unhide HC0))
  refine wp_region_held_drew (S := fun w' => (w'.cell? ⟨w1.heap.size, 0, none⟩ = some (.bool true) ∧ w'.cell? ⟨w1.heap.size, 1, none⟩ = some (.int .i64 0) ∧ w'.cell? ⟨w1.heap.size, 2, none⟩ = some (.int .i64 X) ∧ w'.cell? ⟨w1.heap.size, 3, none⟩ = some (.int .u64 S)) ∧ w'.cell? ⟨b2, 0, none⟩ = some (.slice a2 m2 c2)) (by kernel_rfl) ?_ (fun hHeld => ?_)
  · (try dsimp only)
    exact ⟨unhide HA, unhide HC0⟩
  refine lst0 17 (by kernel_rfl) ?_
  refine tkA 0 45 1 ?_
  refine tkA 1 46 3 ?_
  refine tkA 2 47 7 ?_
  refine tkA 3 48 15 ?_
  refine tkU 4 49 31 ?_
  refine tkU 5 50 63 ?_
  refine tkU 6 51 127 ?_
  refine tkU 7 52 255 ?_
  refine tkU 8 53 511 ?_
  refine tkU 9 54 1023 ?_
  refine tkU 10 55 2047 ?_
  refine rdA 11 4095 (fun Kk hKk => ?_)
  go_simp
  refine hKk.out _ _ ?_ (fun hHeld => ?_)
  · (try dsimp only)
    exact hHeld
  clear hKk Kk
  (try simp only [List.setIfInBounds_toArray, List.set_cons_zero, List.set_cons_succ])
  refine rdA 12 8191 (fun Kk hKk => ?_)
  go_simp
  refine hKk.out _ _ ?_ (fun hHeld => ?_)
  · (try dsimp only)
    exact hHeld
  clear hKk Kk
  (try simp only [List.setIfInBounds_toArray, List.set_cons_zero, List.set_cons_succ])
  refine rdA 13 16383 (fun Kk hKk => ?_)
  go_simp
  refine hKk.out _ _ ?_ (fun hHeld => ?_)
  · (try dsimp only)
    exact hHeld
  clear hKk Kk
  (try simp only [List.setIfInBounds_toArray, List.set_cons_zero, List.set_cons_succ])
  refine tkU 14 59 32767 ?_
  refine tkU 15 60 65535 ?_
  refine tkA 16 61 131071 ?_
  refine wpAnyH_done (by kernel_rfl) ?_ _
  clear hHeld
  obtain ⟨e0, e1, e2, e3⟩ := unhide HA
  have e4 := unhide HC0
  go_wp2_with fail
  clear e0 e1 e2 e3 e4
  refine (uint_any _ _ _ _ _ (unhide HN)).mono ?_
  rintro _ w8 ⟨rfl, hb⟩
  have HB := hide (bthen (unhide HB) hb)
  have HA := hide ((unhide HA).below hb)
  clear hb
  rw [hm]
  obtain ⟨e0, e1, e2, e3⟩ := unhide HA
  go_wp2_with fail
  clear e0 e1 e2 e3
  refine (unhide HC _).mono ?_
  rintro _ w9 ⟨rfl, hb⟩
  have HB := hide (bthen (unhide HB) hb)
  clear hb
  go_wp2_with fail
  go_ret2
  exact ⟨rfl, unhide HB⟩
set_option maxHeartbeats 4000000 in
set_option maxRecDepth 100000 in
theorem rchop_zero_f {w k x X S L m V : Int} {s : Bool} (W : World) (HO : Ct 17 #[.int .i64 w, .int .u64 x] (.agg #[.bool false, .int .i64 0, .int .i64 X, .int .u64 S])) (HE : Ct 11 #[.int .i64 k, .bool s] (.int .u64 L)) (L0 : 0 ≤ L) (L1 : L < 18446744073709551616) (g : decide (0 < cmpN 0 L.toNat) = false) (hm : lo 0 = m) (HC : Ct 22 #[.int .i64 k, .int .u64 m] (.int .u64 V)) :
    Calls Try.prog 12 #[.int .i64 w, .int .i64 k, .int .u64 x, .bool s] W fun r W' => r = .returned (.tuple #[.int .i64 0, .int .u64 V]) ∧ Below W.heap.size W W' := by
  go_enter Try.func12, Try.ntmps12
  go_wp2_with fail
  refine (unhide HO _).mono ?_
  rintro _ w1 ⟨rfl, hb⟩
  have zw := hb.size
  have HB := hide (balloc hb (.cells #[.bool false, .int .i64 0, .int .i64 X, .int .u64 S] 44))
  have HA := hide (at4_new w1 (.bool false) (.int .i64 0) (.int .i64 X) (.int .u64 S) 44)
  clear hb
  obtain ⟨c0, c1, c2, c3⟩ := unhide HA
  go_wp2_with fail
  clear c0 c1 c2 c3
  refine (refOf_any 0 _ (by omega) (by omega)).mono ?_
  rintro _ w2 ⟨s2, rfl, hN, hb⟩
  obtain ⟨a2, m2, c2, rfl⟩ := hN.slice
  change IsNat _ _ 0 at hN
  have HB := hide (balloc (bthen (unhide HB) hb) (.cells #[.slice a2 m2 c2] 48))
  have HA := hide (((unhide HA).below hb).below (below1 w2 (.cells #[.slice a2 m2 c2] 48)))
  have HN := hide (hN.below (below1 w2 (.cells #[.slice a2 m2 c2] 48)))
  have HC0 : Hid ((w2.alloc (.cells #[.slice a2 m2 c2] 48)).cell? ⟨w2.heap.size, 0, none⟩ = some (.slice a2 m2 c2) ∧ (w2.alloc (.cells #[.slice a2 m2 c2] 48)).frozen? ⟨w2.heap.size, 0, none⟩ = false) := by unfold Hid; simp [go_sem]
  have zb : w1.heap.size < w2.heap.size := by have := hb.size; simp at this; omega
  clear hb hN
  generalize hx2 : w2.heap.size = b2 at *
  obtain ⟨c0, c1, c2', c3⟩ := unhide HA
  go_wp2_with fail
  clear c0 c1 c2' c3
  have HC0 := hide (unhide HC0).1
  generalize w2.alloc (.cells #[.slice a2 m2 c2] 48) = w4 at *
  have HB := hide ((unhide HB).drew)
  have HA := hide ((unhide HA).below ((Below.refl _ _).drew))
  have HN := hide ((unhide HN).below ((Below.refl _ _).drew))
  have HC0 := hide (keep1 ((Below.refl _ _).drew) (lt_of_cell (unhide HC0)) (unhide HC0))
  refine wp_region_held_drew (S := fun w' => (w'.cell? ⟨w1.heap.size, 0, none⟩ = some (.bool false) ∧ w'.cell? ⟨w1.heap.size, 1, none⟩ = some (.int .i64 0) ∧ w'.cell? ⟨w1.heap.size, 2, none⟩ = some (.int .i64 X) ∧ w'.cell? ⟨w1.heap.size, 3, none⟩ = some (.int .u64 S)) ∧ w'.cell? ⟨b2, 0, none⟩ = some (.slice a2 m2 c2)) (by kernel_rfl) ?_ (fun hHeld => ?_)
  · (try dsimp only)
    exact ⟨unhide HA, unhide HC0⟩
  refine lst0 16 (by kernel_rfl) ?_
  refine tkA 0 29 1 ?_
  refine tkA 1 30 3 ?_
  refine tkA 2 31 7 ?_
  refine tkU 3 32 15 ?_
  refine tkU 4 33 31 ?_
  refine tkU 5 34 63 ?_
  refine tkU 6 35 127 ?_
  refine tkU 7 36 255 ?_
  refine tkU 8 37 511 ?_
  refine tkU 9 38 1023 ?_
  refine rdA 10 2047 (fun Kk hKk => ?_)
  go_simp
  refine hKk.out _ _ ?_ (fun hHeld => ?_)
  · (try dsimp only)
    exact hHeld
  clear hKk Kk
  (try simp only [List.setIfInBounds_toArray, List.set_cons_zero, List.set_cons_succ])
  refine rdA 11 4095 (fun Kk hKk => ?_)
  go_simp
  refine hKk.out _ _ ?_ (fun hHeld => ?_)
  · (try dsimp only)
    exact hHeld
  clear hKk Kk
  (try simp only [List.setIfInBounds_toArray, List.set_cons_zero, List.set_cons_succ])
  refine rdA 12 8191 (fun Kk hKk => ?_)
  go_simp
  refine hKk.out _ _ ?_ (fun hHeld => ?_)
  · (try dsimp only)
    exact hHeld
  clear hKk Kk
  (try simp only [List.setIfInBounds_toArray, List.set_cons_zero, List.set_cons_succ])
  refine tkU 13 42 16383 ?_
  refine tkU 14 43 32767 ?_
  refine tkA 15 44 65535 ?_
  refine wpAnyH_done (by kernel_rfl) ?_ _
  clear hHeld
  obtain ⟨e0, e1, e2, e3⟩ := unhide HA
  have e4 := unhide HC0
  go_wp2_with fail
  clear e0 e1 e2 e3 e4
  have HB := hide ((unhide HB).drew)
  have HA := hide ((unhide HA).below ((Below.refl _ _).drew))
  have HN := hide ((unhide HN).below ((Below.refl _ _).drew))
  have HC0 := hide (keep1 ((Below.refl _ _).drew) (lt_of_cell (unhide HC0)) (unhide HC0))
  refine wp_region_held_drew (S := fun w' => (w'.cell? ⟨w1.heap.size, 0, none⟩ = some (.bool false) ∧ w'.cell? ⟨w1.heap.size, 1, none⟩ = some (.int .i64 0) ∧ w'.cell? ⟨w1.heap.size, 2, none⟩ = some (.int .i64 X) ∧ w'.cell? ⟨w1.heap.size, 3, none⟩ = some (.int .u64 S)) ∧ w'.cell? ⟨b2, 0, none⟩ = some (.slice a2 m2 c2)) (by kernel_rfl) ?_ (fun hHeld => ?_)
  · (try dsimp only)
    exact ⟨unhide HA, unhide HC0⟩
  refine lst0 17 (by kernel_rfl) ?_
  refine tkA 0 45 1 ?_
  refine tkA 1 46 3 ?_
  refine tkA 2 47 7 ?_
  refine tkA 3 48 15 ?_
  refine tkA 4 49 31 ?_
  refine tkA 5 50 63 ?_
  refine tkA 6 51 127 ?_
  refine tkA 7 52 255 ?_
  refine tkA 8 53 511 ?_
  refine tkA 9 54 1023 ?_
  refine tkA 10 55 2047 ?_
  refine rdA 11 4095 (fun Kk hKk => ?_)
  go_simp
  refine (unhide HE _).mono ?_
  rintro _ w5 ⟨rfl, hb⟩
  have HB := hide (bthen (unhide HB) hb)
  have HA := hide ((unhide HA).below hb)
  have HN := hide ((unhide HN).below hb)
  have HC0 := hide (keep1 hb (lt_of_cell (unhide HC0)) (unhide HC0))
  clear hb
  (try go_wp2_with fail)
  refine hKk.out _ _ ?_ (fun hHeld => ?_)
  · (try dsimp only)
    exact ⟨unhide HA, unhide HC0⟩
  clear hKk Kk
  (try simp only [List.setIfInBounds_toArray, List.set_cons_zero, List.set_cons_succ])
  refine rdA 12 8191 (fun Kk hKk => ?_)
  go_simp
  refine (refOf_any L _ L0 L1).mono ?_
  rintro _ w6 ⟨s6, rfl, hN, hb⟩
  obtain ⟨a6, m6, c6, rfl⟩ := hN.slice
  have HB := hide (bthen (unhide HB) hb)
  have HA := hide ((unhide HA).below hb)
  have HN := hide ((unhide HN).below hb)
  have HC0 := hide (keep1 hb (lt_of_cell (unhide HC0)) (unhide HC0))
  have H6 := hide hN
  clear hb hN
  (try go_wp2_with fail)
  refine hKk.out _ _ ?_ (fun hHeld => ?_)
  · (try dsimp only)
    exact ⟨unhide HA, unhide HC0⟩
  clear hKk Kk
  (try simp only [List.setIfInBounds_toArray, List.set_cons_zero, List.set_cons_succ])
  refine rdA 13 16383 (fun Kk hKk => ?_)
  go_simp
  refine (refCmp_any _ _ _ _ _ _ _ _ _ (unhide HN) (unhide H6)).mono ?_
  rintro _ w7 ⟨rfl, hb⟩
  have HB := hide (bthen (unhide HB) hb)
  have HA := hide ((unhide HA).below hb)
  have HN := hide ((unhide HN).below hb)
  have HC0 := hide (keep1 hb (lt_of_cell (unhide HC0)) (unhide HC0))
  clear hb H6
  (try go_wp2_with fail)
  refine hKk.out _ _ ?_ (fun hHeld => ?_)
  · (try dsimp only)
    exact ⟨unhide HA, unhide HC0⟩
  clear hKk Kk
  (try simp only [List.setIfInBounds_toArray, List.set_cons_zero, List.set_cons_succ])
  refine tkA 14 59 32767 ?_
  refine tkA 15 60 65535 ?_
  refine tkA 16 61 131071 ?_
  refine wpAnyH_done (by kernel_rfl) ?_ _
  clear hHeld
  obtain ⟨e0, e1, e2, e3⟩ := unhide HA
  have e4 := unhide HC0
  go_wp2_with fail
  clear e0 e1 e2 e3 e4
  refine (uint_any _ _ _ _ _ (unhide HN)).mono ?_
  rintro _ w8 ⟨rfl, hb⟩
  have HB := hide (bthen (unhide HB) hb)
  have HA := hide ((unhide HA).below hb)
  clear hb
  rw [hm]
  obtain ⟨e0, e1, e2, e3⟩ := unhide HA
  go_wp2_with fail
  clear e0 e1 e2 e3
  refine (unhide HC _).mono ?_
  rintro _ w9 ⟨rfl, hb⟩
  have HB := hide (bthen (unhide HB) hb)
  clear hb
  go_wp2_with fail
  go_ret2
  exact ⟨rfl, unhide HB⟩
end Go.Proofs.Ytmbkpmcmhmldgaa
