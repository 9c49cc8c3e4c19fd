/- WhD, WhE, WhF. -/
import Derived.Test.YtepdmpcgkecjiaaG20
import Derived.Test.YtepdmpcgkecjiaaG26
import Derived.Test.YtepdmpcgkecjiaaG27
namespace Go.Proofs.Ytepdmpcgkecjiaa
open Go.RowKit
open Go.Proofs.Ytepdmpcgkecjiaa.W

theorem nat_one {w : World} {a : Option Addr} {n c : Nat} (h : IsNat w (.slice a n c) 1) : n ≤ 1000 := Nat.le_trans (h.short (k := 1) (by rw [pw_1]; omega)) (by omega)
theorem nat_word {w : World} {a : Option Addr} {n c : Nat} {S : Int} (h : IsNat w (.slice a n c) S.toNat) (h0 : 0 ≤ S) (h1 : S < 18446744073709551616) : n ≤ 1000 ∧ S.toNat < pw 300 := by
  have e : pw 2 = 18446744073709551616 := by decide +kernel
  have hs : S.toNat < pw 2 := by omega
  exact ⟨Nat.le_trans (h.short hs) (by omega), lt_pw 300 hs (by omega)⟩
set_option maxRecDepth 100000 in
set_option maxHeartbeats 2000000 in
theorem down_up {K1 X1 S1 : Int} {n1 : Bool} (W : World) (HS : Hid (0 ≤ S1 ∧ S1 < 18446744073709551616 ∧ X1 ≤ 10000)) (g : 0 ≤ X1) :
    Calls Try.prog 15 #[.agg #[.bool n1, .int .i64 K1, .int .i64 X1, .int .u64 S1]] W fun e w' => ∃ s, e = .returned (.tuple #[.agg #[s], .int .i64 (-1), .bool false]) ∧ IsNat w' s (S1.toNat * 2 ^ X1.toNat) ∧ Below W.heap.size W w' := by
  have HG := hide g
  go_enter Try.func15, Try.ntmps15
  go_wp2_with fail
  have HB := hide (below2 W (.cells #[.bool n1, .int .i64 K1, .int .i64 X1, .int .u64 S1] 30) (.cells #[.slice none 0 0] 33)).drew
  have HA := hide ((at4_new2a W (.bool n1) (.int .i64 K1) (.int .i64 X1) (.int .u64 S1) 30 (.cells #[.slice none 0 0] 33)).below ((Below.refl _ _).drew))
  have HR : Hid (Room (W.heap.size + 1) 1 ((W.alloc (.cells #[.bool n1, .int .i64 K1, .int .i64 X1, .int .u64 S1] 30)).alloc (.cells #[.slice none 0 0] 33)).drew) := by
    intro o ho
    match o, ho with
    | 0, _ => simp [go_sem]
  have HC : Hid (((W.alloc (.cells #[.bool n1, .int .i64 K1, .int .i64 X1, .int .u64 S1] 30)).alloc (.cells #[.slice none 0 0] 33)).drew.cell? ⟨W.heap.size + 1, 0, none⟩ = some (.slice none 0 0)) := by unfold Hid; simp [go_sem]
  refine wp_region_held_drew (S := fun w' => (w'.cell? ⟨W.heap.size, 0, none⟩ = some (.bool n1) ∧ w'.cell? ⟨W.heap.size, 1, none⟩ = some (.int .i64 K1) ∧ w'.cell? ⟨W.heap.size, 2, none⟩ = some (.int .i64 X1) ∧ w'.cell? ⟨W.heap.size, 3, none⟩ = some (.int .u64 S1)) ∧ Room (W.heap.size + 1) 1 w') (by kernel_rfl) ?_ (fun hHeld => ?_)
  · (try dsimp only)
    exact ⟨unhide HA, unhide HR⟩
  refine lst0 9 (by kernel_rfl) ?_
  refine tkH 0 11 1 ?v0 rfl (by kernel_rfl) (by kernel_rfl) (fun _ _ _ h => h) (by assumption) (Or.inl ⟨by rfl, ?y0⟩) ?_
  case y0 => ((intro w hSw; (try dsimp only at hSw); go_simp) <;> with_reducible rfl)
  (try simp only [Act.put, List.setIfInBounds_toArray, List.set_cons_zero, List.set_cons_succ])
  refine tkH 1 12 3 ?v1 rfl (by kernel_rfl) (by kernel_rfl) (fun _ _ _ h => h) (by assumption) (Or.inl ⟨by rfl, ?y1⟩) ?_
  case y1 => ((intro w hSw; (try dsimp only at hSw); go_simp) <;> with_reducible rfl)
  (try simp only [Act.put, List.setIfInBounds_toArray, List.set_cons_zero, List.set_cons_succ])
  refine tkH 3 14 11 ?v3 rfl (by kernel_rfl) (by kernel_rfl) (fun _ _ _ h => h) (by assumption) (Or.inl ⟨by rfl, ?y3⟩) ?_
  case y3 => ((intro w hSw; (try dsimp only at hSw); go_simp) <;> with_reducible rfl)
  (try simp only [Act.put, List.setIfInBounds_toArray, List.set_cons_zero, List.set_cons_succ])
  refine tkH 4 15 27 ?v4 rfl (by kernel_rfl) (by kernel_rfl) (fun _ _ _ h => h) (by assumption) (Or.inl ⟨by rfl, ?y4⟩) ?_
  case y4 => ((intro w hSw; (try dsimp only at hSw); go_simp) <;> with_reducible rfl)
  (try simp only [Act.put, List.setIfInBounds_toArray, List.set_cons_zero, List.set_cons_succ])
  refine rdH 2 31 rfl (by kernel_rfl) (by kernel_rfl) (fun Kk hKk => ?_)
  go_simp
  refine (refOf_any S1 _ (unhide HS).1 (unhide HS).2.1).mono ?_
  rintro _ w3 ⟨s3, rfl, hN, hbl⟩
  obtain ⟨a3, m3, c3, rfl⟩ := hN.slice
  have HB := hide (bthen (unhide HB) hbl)
  have HA := hide ((unhide HA).below hbl)
  have HR := hide ((unhide HR).below hbl)
  have HC := hide (keep1 hbl (lt_of_cell (unhide HC)) (unhide HC))
  have H3 := hide hN
  clear hbl hN
  (try go_wp2_with fail)
  refine hKk.out _ _ ?_ (fun hHeld => ?_)
  · (try dsimp only)
    exact ⟨unhide HA, unhide HR⟩
  clear hKk Kk
  (try simp only [List.setIfInBounds_toArray, List.set_cons_zero, List.set_cons_succ])
  refine rdH 5 63 rfl (by kernel_rfl) (by kernel_rfl) (fun Kk hKk => ?_)
  go_simp
  refine (shl_int _ _ _ _ _ _ (unhide H3) (nat_word (unhide H3) (unhide HS).1 (unhide HS).2.1).1 (unhide HG) (unhide HS).2.2).mono ?_
  rintro _ w4 ⟨s4, rfl, hN, hbl⟩
  obtain ⟨a4, m4, c4, rfl⟩ := hN.slice
  have HB := hide (bthen (unhide HB) hbl)
  have HA := hide ((unhide HA).below hbl)
  have HR := hide ((unhide HR).below hbl)
  have HC := hide (keep1 hbl (lt_of_cell (unhide HC)) (unhide HC))
  have H4 := hide hN
  clear hbl hN
  (try go_wp2_with fail)
  refine hKk.out _ _ ?_ (fun hHeld => ?_)
  · (try dsimp only)
    exact ⟨unhide HA, unhide HR⟩
  clear hKk Kk
  (try simp only [List.setIfInBounds_toArray, List.set_cons_zero, List.set_cons_succ])
  refine rdH 6 127 rfl (by kernel_rfl) (by kernel_rfl) (fun Kk hKk => ?_)
  obtain ⟨⟨v0, c0⟩, r0⟩ := hHeld.2 0 (by omega)
  go_simp
  refine hKk.out _ _ ?_ (fun hHeld => ?_)
  · (try dsimp only)
    exact ⟨At4.set hHeld.1 (by omega) _ _, hHeld.2.set _ _⟩
  clear hKk Kk
  (try simp only [List.setIfInBounds_toArray, List.set_cons_zero, List.set_cons_succ])
  refine tkH 7 3 255 ?v7 rfl (by kernel_rfl) (by kernel_rfl) (fun _ _ _ h => h) (by assumption) (Or.inl ⟨by rfl, ?y7⟩) ?_
  case y7 => ((intro w hSw; (try dsimp only at hSw); go_simp) <;> with_reducible rfl)
  (try simp only [Act.put, List.setIfInBounds_toArray, List.set_cons_zero, List.set_cons_succ])
  refine tkH 8 4 511 ?v8 rfl (by kernel_rfl) (by kernel_rfl) (fun _ _ _ h => h) (by assumption) (Or.inl ⟨by rfl, ?y8⟩) ?_
  case y8 => ((intro w hSw; (try dsimp only at hSw); go_simp) <;> with_reducible rfl)
  (try simp only [Act.put, List.setIfInBounds_toArray, List.set_cons_zero, List.set_cons_succ])
  refine wpAnyH_done (by kernel_rfl) ?_ _
  go_wp2
  exact bodyPost_ret (v := .tuple #[.agg #[.slice a4 m4 c4], .int .i64 (-1), .bool false]) (by simp [results, Try.results15, go_sem, c0]) rfl ⟨_, rfl, (unhide H4).store (unhide HC) _, bset (unhide HB) _ (by omega) _ _⟩

end Go.Proofs.Ytepdmpcgkecjiaa
namespace Go.Proofs.Ytepdmpcgkecjiaa
open Go.RowKit
open Go.Proofs.Ytepdmpcgkecjiaa.W

theorem wsb (w0 : World) : W.Stable (fun w => Below w0.heap.size w0 w) := W.stable_below w0
theorem nat_lt_300 {S : Int} (h0 : 0 ≤ S) (h1 : S < 18446744073709551616) (u : Nat) : S.toNat % u < pw 300 := by
  have e : pw 2 = 18446744073709551616 := by decide +kernel
  exact Nat.lt_of_le_of_lt (Nat.mod_le _ _) (lt_pw 300 (show S.toNat < pw 2 by omega) (by omega))
/-- The variables of Down: the unit, the quotient, the rest, the result. -/
structure DnSt (W : World) (N bu bq br : Nat) (su sq sr : Value) (u q r : Nat) (w : World) : Prop where
  cu : w.cell? ⟨bu, 0, none⟩ = some su
  cq : w.cell? ⟨bq, 0, none⟩ = some sq
  cr : w.cell? ⟨br, 0, none⟩ = some sr
  nu : IsNat w su u
  nq : IsNat w sq q
  nr : IsNat w sr r
  cv : w.cell? ⟨N, 0, none⟩ = some (.slice none 0 0)
  fv : w.frozen? ⟨N, 0, none⟩ = false
  bel : Below W.heap.size W w
theorem DnSt.below {W : World} {N bu bq br : Nat} {su sq sr : Value} {u q r : Nat} {w w' : World} (h : DnSt W N bu bq br su sq sr u q r w) (hb : Below w.heap.size w w') : DnSt W N bu bq br su sq sr u q r w' :=
  { cu := keep1 hb (lt_of_cell h.cu) h.cu, cq := keep1 hb (lt_of_cell h.cq) h.cq, cr := keep1 hb (lt_of_cell h.cr) h.cr, nu := h.nu.below hb, nq := h.nq.below hb, nr := h.nr.below hb, cv := keep1 hb (lt_of_cell h.cv) h.cv, fv := (hb.frozen (lt_of_cell h.cv)).trans h.fv, bel := bthen h.bel hb }
theorem fresh_one {N b : Nat} {v : Value} {w : World} (h : Fresh N #[v] b w) : w.cell? ⟨b, 0, none⟩ = some v ∧ w.frozen? ⟨b, 0, none⟩ = false := ⟨h.cell 0 _ rfl, h.thawed 0⟩

set_option maxRecDepth 100000 in
set_option maxHeartbeats 2000000 in
theorem down_dn {K1 X1 S1 : Int} {n1 : Bool} (k : Nat) (W : World) (HS : Hid (0 ≤ S1 ∧ S1 < 18446744073709551616 ∧ k ≤ 5000)) (g : ¬ 0 ≤ X1) (kx : IntKind.i64.wrap (-X1) = (k : Int)) :
    Calls Try.prog 15 #[.agg #[.bool n1, .int .i64 K1, .int .i64 X1, .int .u64 S1]] W fun e w' => ∃ s, e = .returned (.tuple #[.agg #[s], .int .i64 (cmpN (S1.toNat % (1 * 2 ^ k) * 2 ^ 1) (1 * 2 ^ k)), .bool (decide (S1.toNat % (1 * 2 ^ k) ≠ 0))]) ∧ IsNat w' s (S1.toNat / (1 * 2 ^ k)) ∧ Below W.heap.size W w' := by
  go_enter Try.func15, Try.ntmps15
  go_wp2_with fail
  have HB := hide (below2 W (.cells #[.bool n1, .int .i64 K1, .int .i64 X1, .int .u64 S1] 30) (.cells #[.slice none 0 0] 33)).drew
  have HA := hide ((at4_new2a W (.bool n1) (.int .i64 K1) (.int .i64 X1) (.int .u64 S1) 30 (.cells #[.slice none 0 0] 33)).below ((Below.refl _ _).drew))
  have HC : Hid (((W.alloc (.cells #[.bool n1, .int .i64 K1, .int .i64 X1, .int .u64 S1] 30)).alloc (.cells #[.slice none 0 0] 33)).drew.cell? ⟨W.heap.size + 1, 0, none⟩ = some (.slice none 0 0) ∧ ((W.alloc (.cells #[.bool n1, .int .i64 K1, .int .i64 X1, .int .u64 S1] 30)).alloc (.cells #[.slice none 0 0] 33)).drew.frozen? ⟨W.heap.size + 1, 0, none⟩ = false) := ⟨by simp [go_sem], by simp [go_sem]⟩
  refine wp_region_held_drew (S := fun w' => (w'.cell? ⟨W.heap.size, 0, none⟩ = some (.bool n1) ∧ w'.cell? ⟨W.heap.size, 1, none⟩ = some (.int .i64 K1) ∧ w'.cell? ⟨W.heap.size, 2, none⟩ = some (.int .i64 X1) ∧ w'.cell? ⟨W.heap.size, 3, none⟩ = some (.int .u64 S1))) (by kernel_rfl) ?_ (fun hHeld => ?_)
  · (try dsimp only)
    exact unhide HA
  refine wo_start (N := W.heap.size + 2) (i1 := 5) (d1 := 5) (v1 := #[.slice none 0 0]) (t1 := 33) (f := 1) (n := 5) (T := fun w' => Below W.heap.size W w' ∧ (w'.cell? ⟨W.heap.size + 1, 0, none⟩ = some (.slice none 0 0) ∧ w'.frozen? ⟨W.heap.size + 1, 0, none⟩ = false)) (by kernel_rfl) (by kernel_rfl) (fun _ _ _ _ _ h => h) (stable_at4 _ _ _ _ _) ?_ ((wsb _).and (stable_var _ _)) hHeld (⟨unhide HB, unhide HC⟩) (by simp) ?_
  · intro a w K h
    unfold wpOp
    go_simp
    exact Or.inl h
  clear hHeld
  refine wo_take (i := 1) (oi := { dst := some 18, op := _, type := _, pos := _, after := _, guard := _ }) rfl (by kernel_rfl) (by kernel_rfl) (fun _ _ _ h => h) (Or.inl ⟨by rfl, fun w hSw => by (try dsimp only at hSw); go_simp; with_reducible rfl⟩) ?_
  (try simp only [Act.put, List.setIfInBounds_toArray, List.set_cons_zero, List.set_cons_succ])
  refine wo_take (i := 2) (oi := { dst := some 19, op := _, type := _, pos := _, after := _, guard := _ }) rfl (by kernel_rfl) (by kernel_rfl) (fun _ _ _ h => h) (Or.inl ⟨by rfl, fun w hSw => by (try dsimp only at hSw); go_simp; with_reducible rfl⟩) ?_
  (try simp only [Act.put, List.setIfInBounds_toArray, List.set_cons_zero, List.set_cons_succ])
  refine wo_take (i := 3) (oi := { dst := some 20, op := _, type := _, pos := _, after := _, guard := _ }) rfl (by kernel_rfl) (by kernel_rfl) (fun _ _ _ h => h) (Or.inl ⟨by rfl, fun w hSw => by (try dsimp only at hSw); go_simp; with_reducible rfl⟩) ?_
  (try simp only [Act.put, List.setIfInBounds_toArray, List.set_cons_zero, List.set_cons_succ])
  refine wo_call (c := 0) (o := { dst := some 17, op := _, type := _, pos := _, after := _, guard := _ }) rfl (by kernel_rfl) (by kernel_rfl) (fun u hSu hTu Kk hKk => ?_)
  go_simp
  refine (refOf_1 _).mono ?_
  rintro _ wn ⟨s1, rfl, hN1, hbl⟩
  obtain ⟨a1, m1, c1, rfl⟩ := hN1.slice
  have HTn := hide (And.intro hN1 ((wsb _).and (stable_var _ _) _ _ hTu hbl))
  clear hTu hSu hN1
  (try go_wp2_with fail)
  refine hKk.out _ _ (fun w' => IsNat w' (.slice a1 m1 c1) (1) ∧ Below W.heap.size W w' ∧ (w'.cell? ⟨W.heap.size + 1, 0, none⟩ = some (.slice none 0 0) ∧ w'.frozen? ⟨W.heap.size + 1, 0, none⟩ = false)) (by assumption) ((stable_nat _ _).and ((wsb _).and (stable_var _ _))) (unhide HTn) ?_
  clear hKk Kk HTn
  (try simp only [Act.put, List.setIfInBounds_toArray, List.set_cons_zero, List.set_cons_succ])
  refine wo_call (c := 4) (o := { dst := some 21, op := _, type := _, pos := _, after := _, guard := _ }) rfl (by kernel_rfl) (by kernel_rfl) (fun u hSu hTu Kk hKk => ?_)
  go_simp
  refine (refShl_any _ _ _ 1 k _ hTu.1 (nat_one hTu.1) (Nat.le_trans (unhide HS).2.2 (by omega))).mono ?_
  rintro _ wn ⟨s2, rfl, hN2, hbl⟩
  obtain ⟨a2, m2, c2, rfl⟩ := hN2.slice
  have HTn := hide (And.intro hN2 ((wsb _).and (stable_var _ _) _ _ hTu.2 hbl))
  clear hTu hSu hN2
  (try go_wp2_with fail)
  refine hKk.out _ _ (fun w' => IsNat w' (.slice a2 m2 c2) (1 * 2 ^ k) ∧ Below W.heap.size W w' ∧ (w'.cell? ⟨W.heap.size + 1, 0, none⟩ = some (.slice none 0 0) ∧ w'.frozen? ⟨W.heap.size + 1, 0, none⟩ = false)) (by assumption) ((stable_nat _ _).and ((wsb _).and (stable_var _ _))) (unhide HTn) ?_
  clear hKk Kk HTn
  (try simp only [Act.put, List.setIfInBounds_toArray, List.set_cons_zero, List.set_cons_succ])
  refine wo_fin (by kernel_rfl) (fun wf bu hSu hTu k1 => ?_)
  (try simp only [Act.put, List.setIfInBounds_toArray, List.set_cons_zero, List.set_cons_succ])
  unfold ptr
  have zb := k1.base
  obtain ⟨f0, f1⟩ := fresh_one k1
  refine lstm 7 63 (by kernel_rfl) ?_
  refine rdH 6 127 rfl (by kernel_rfl) (by kernel_rfl) (fun Kk hKk => ?_)
  go_simp
  refine hKk.out _ _ ?_ (fun hHeld => ?_)
  · (try dsimp only)
    exact At4.set hSu (by omega) _ _
  clear hKk Kk
  (try simp only [Act.put, List.setIfInBounds_toArray, List.set_cons_zero, List.set_cons_succ])
  refine wpAnyH_done (by kernel_rfl) ?_ _
  have HB := hide (bset hTu.2.1 bu (by omega) 0 (.slice a2 m2 c2))
  have HA := hide (show At4 W.heap.size (.bool n1) (.int .i64 K1) (.int .i64 X1) (.int .u64 S1) _ from hHeld)
  have HU : Hid ((wf.setCell ⟨bu, 0, none⟩ (.slice a2 m2 c2)).cell? ⟨bu, 0, none⟩ = some (.slice a2 m2 c2)) := World.cell?_setCell_same _ _ _ f0
  have HN := hide (hTu.1.store f0 (.slice a2 m2 c2))
  have HC := hide (And.intro (keep_set bu 0 (.slice a2 m2 c2) (by omega) hTu.2.2.1) ((frozen_set wf ⟨bu, 0, none⟩ _ (.slice a2 m2 c2)).trans hTu.2.2.2))
  clear hHeld hSu hTu k1 f0 f1
  generalize wf.setCell ⟨bu, 0, none⟩ (.slice a2 m2 c2) = wx at *
  have HZ := hide (unhide HB).size
  go_wp2_with fail
  have HB := hide (unhide HB).drew
  have HA := hide ((unhide HA).below ((Below.refl _ _).drew))
  have HU := hide (keep1 ((Below.refl _ _).drew) (lt_of_cell (unhide HU)) (unhide HU))
  have HN := hide ((unhide HN).below ((Below.refl _ _).drew))
  have HC := hide ((stable_var _ _) _ _ (unhide HC) ((Below.refl _ _).drew))
  refine wp_region_held_drew (S := fun w' => (w'.cell? ⟨W.heap.size, 0, none⟩ = some (.bool n1) ∧ w'.cell? ⟨W.heap.size, 1, none⟩ = some (.int .i64 K1) ∧ w'.cell? ⟨W.heap.size, 2, none⟩ = some (.int .i64 X1) ∧ w'.cell? ⟨W.heap.size, 3, none⟩ = some (.int .u64 S1)) ∧ w'.cell? ⟨bu, 0, none⟩ = some (.slice a2 m2 c2)) (by kernel_rfl) ?_ (fun hHeld => ?_)
  · exact ⟨unhide HA, unhide HU⟩
  refine wu_start (N := bu + 1) (i1 := 8) (d1 := 6) (v1 := .slice none 0 0) (t1 := 33) (i2 := 9) (d2 := 7) (v2 := .slice none 0 0) (t2 := 33) (f := 2) (n := 8)
    (T := fun w' => IsNat w' (.slice a2 m2 c2) (1 * 2 ^ k) ∧ Below W.heap.size W w' ∧ (w'.cell? ⟨W.heap.size + 1, 0, none⟩ = some (.slice none 0 0) ∧ w'.frozen? ⟨W.heap.size + 1, 0, none⟩ = false))
    (by kernel_rfl) (by kernel_rfl) (fun _ _ _ _ _ h => h) (fun _ _ h hb => ⟨At4.below h.1 hb, keep1 hb (lt_of_cell h.2) h.2⟩) (by decide) (by decide) ?_ ?_ ((stable_nat _ _).and ((wsb _).and (stable_var _ _))) hHeld ?_ ?_ ?_
  · intro a w K h
    unfold wpOp
    go_simp
    exact Or.inl h
  · intro a w K h
    unfold wpOp
    go_simp
    exact Or.inl h
  · exact ⟨unhide HN, unhide HB, unhide HC⟩
  · exact lt_of_cell (unhide HU)
  clear hHeld
  refine wu_take (i := 0) (oi := { dst := some 23, op := _, type := _, pos := _, after := _, guard := _ }) rfl (by kernel_rfl) (by kernel_rfl) (fun _ _ _ h => h) (Or.inl ⟨by rfl, fun w hSw => by (try dsimp only at hSw); go_simp; with_reducible rfl⟩) ?_
  (try simp only [Act.put, List.setIfInBounds_toArray, List.set_cons_zero, List.set_cons_succ])
  refine wu_take (i := 1) (oi := { dst := some 24, op := _, type := _, pos := _, after := _, guard := _ }) rfl (by kernel_rfl) (by kernel_rfl) (fun _ _ _ h => h) (Or.inl ⟨by rfl, fun w hSw => by (try dsimp only at hSw); go_simp; with_reducible rfl⟩) ?_
  (try simp only [Act.put, List.setIfInBounds_toArray, List.set_cons_zero, List.set_cons_succ])
  refine wu_take (i := 3) (oi := { dst := some 26, op := _, type := _, pos := _, after := _, guard := _ }) rfl (by kernel_rfl) (by kernel_rfl) (fun _ _ _ h => h) (Or.inl ⟨by rfl, fun w hSw => by (try dsimp only at hSw); go_simp; with_reducible rfl⟩) ?_
  (try simp only [Act.put, List.setIfInBounds_toArray, List.set_cons_zero, List.set_cons_succ])
  refine wu_call (c := 2) (o := { dst := some 25, op := _, type := _, pos := _, after := _, guard := _ }) rfl (by kernel_rfl) (by kernel_rfl) (fun u hSu hTu K hK => ?_)
  go_simp
  refine (refOf_any S1 _ (unhide HS).1 (unhide HS).2.1).mono ?_
  rintro e w8 ⟨s8, rfl, hN8, hb8⟩
  obtain ⟨a8, m8, c8, rfl⟩ := hN8.slice
  have HT := hide (((stable_nat _ _).and ((wsb _).and (stable_var _ _))) _ _ hTu hb8)
  clear hTu hSu
  (try go_wp2_with fail)
  refine hK.out _ _ (fun w' => IsNat w' (.slice a8 m8 c8) (S1.toNat) ∧ IsNat w' (.slice a2 m2 c2) (1 * 2 ^ k) ∧ Below W.heap.size W w' ∧ (w'.cell? ⟨W.heap.size + 1, 0, none⟩ = some (.slice none 0 0) ∧ w'.frozen? ⟨W.heap.size + 1, 0, none⟩ = false)) (by assumption) ((stable_nat _ _).and ((stable_nat _ _).and ((wsb _).and (stable_var _ _)))) (⟨hN8, unhide HT⟩) ?_
  clear hK K
  (try simp only [Act.put, List.setIfInBounds_toArray, List.set_cons_zero, List.set_cons_succ])
  clear HT hN8
  refine wu_call (c := 4) (o := { dst := some 27, op := _, type := _, pos := _, after := _, guard := _ }) rfl (by kernel_rfl) (by kernel_rfl) (fun u hSu hTu K hK => ?_)
  go_simp
  refine (refDiv_any _ _ _ _ _ _ _ _ _ hTu.1 hTu.2.1 (pow_ne k) (nat_word hTu.1 (unhide HS).1 (unhide HS).2.1).2 (pow_pw (by have := (unhide HS).2.2; omega))).mono ?_
  rintro e w10 ⟨s10, s11, rfl, hN10, hN11, hb10⟩
  obtain ⟨a10, m10, c10, rfl⟩ := hN10.slice
  obtain ⟨a11, m11, c11, rfl⟩ := hN11.slice
  have HT := hide (((stable_nat _ _).and ((wsb _).and (stable_var _ _))) _ _ hTu.2 hb10)
  clear hTu hSu
  (try go_wp2_with fail)
  refine hK.out _ _ (fun w' => IsNat w' (.slice a10 m10 c10) (S1.toNat / (1 * 2 ^ k)) ∧ IsNat w' (.slice a11 m11 c11) (S1.toNat % (1 * 2 ^ k)) ∧ IsNat w' (.slice a2 m2 c2) (1 * 2 ^ k) ∧ Below W.heap.size W w' ∧ (w'.cell? ⟨W.heap.size + 1, 0, none⟩ = some (.slice none 0 0) ∧ w'.frozen? ⟨W.heap.size + 1, 0, none⟩ = false)) (by assumption) ((stable_nat _ _).and ((stable_nat _ _).and ((stable_nat _ _).and ((wsb _).and (stable_var _ _))))) (⟨hN10, hN11, unhide HT⟩) ?_
  clear hK K
  (try simp only [Act.put, List.setIfInBounds_toArray, List.set_cons_zero, List.set_cons_succ])
  clear HT hN10 hN11
  refine wu_take (i := 5) (oi := { dst := some 22, op := _, type := _, pos := _, after := _, guard := _ }) rfl (by kernel_rfl) (by kernel_rfl) (fun _ _ _ h => h) (Or.inl ⟨by rfl, fun w hSw => by (try dsimp only at hSw); go_simp; with_reducible rfl⟩) ?_
  (try simp only [Act.put, List.setIfInBounds_toArray, List.set_cons_zero, List.set_cons_succ])
  refine wu_take (i := 6) (oi := { dst := some 28, op := _, type := _, pos := _, after := _, guard := _ }) rfl (by kernel_rfl) (by kernel_rfl) (fun _ _ _ h => h) (Or.inl ⟨by rfl, fun w hSw => by (try dsimp only at hSw); go_simp; with_reducible rfl⟩) ?_
  (try simp only [Act.put, List.setIfInBounds_toArray, List.set_cons_zero, List.set_cons_succ])
  refine wu_take (i := 7) (oi := { dst := some 29, op := _, type := _, pos := _, after := _, guard := _ }) rfl (by kernel_rfl) (by kernel_rfl) (fun _ _ _ h => h) (Or.inl ⟨by rfl, fun w hSw => by (try dsimp only at hSw); go_simp; with_reducible rfl⟩) ?_
  (try simp only [Act.put, List.setIfInBounds_toArray, List.set_cons_zero, List.set_cons_succ])
  refine wu_fin (by kernel_rfl) (fun w11 bq br hb hSu hTu k1 k2 => ?_)
  (try simp only [Act.put, List.setIfInBounds_toArray, List.set_cons_zero, List.set_cons_succ])
  obtain ⟨h1, h2, h3, h4, h5, h6⟩ := hTu
  have e1 := k1.cell; have g1 := k1.thawed; have e2 := k2.cell; have g2 := k2.thawed
  have z1 := k1.base; have z2 := k2.base
  unfold Go.Proofs.Ytepdmpcgkecjiaa.W.ptr
  have hc2 : (w11.setCell ⟨bq, 0, none⟩ (.slice a10 m10 c10)).cell? ⟨br, 0, none⟩ = some (.slice none 0 0) := by rw [World.cell?_setCell_other _ _ _ _ (by intro he; injection he with he1; omega)]; exact e2
  have hf2 : (w11.setCell ⟨bq, 0, none⟩ (.slice a10 m10 c10)).frozen? ⟨br, 0, none⟩ = false := by rw [frozen_set]; exact g2
  refine lstm 12 1023 (by kernel_rfl) ?_
  refine rdH 10 2047 rfl (by kernel_rfl) (by kernel_rfl) (fun K hK => ?_)
  go_simp
  refine hK.out _ _ ?_ (fun hHeld => ?_)
  · exact ⟨At4.set hSu.1 (by omega) _ _, keep_set _ _ _ (by omega) hSu.2⟩
  clear hK K
  refine rdH 11 4095 rfl (by kernel_rfl) (by kernel_rfl) (fun K hK => ?_)
  go_simp
  refine hK.out _ _ ⟨At4.set hHeld.1 (by omega) _ _, keep_set _ _ _ (by omega) hHeld.2⟩ (fun hHeld => ?_)
  clear hK K
  refine wpAnyH_done (by kernel_rfl) ?_ _
  have HD : Hid (DnSt W (W.heap.size + 1) bu bq br (.slice a2 m2 c2) (.slice a10 m10 c10) (.slice a11 m11 c11) (1 * 2 ^ k) (S1.toNat / (1 * 2 ^ k)) (S1.toNat % (1 * 2 ^ k)) ((w11.setCell ⟨bq, 0, none⟩ (.slice a10 m10 c10)).setCell ⟨br, 0, none⟩ (.slice a11 m11 c11))) :=
    { cu := hHeld.2, cq := keep_set _ _ _ (by omega) (World.cell?_setCell_same _ _ _ e1), cr := World.cell?_setCell_same _ _ _ hc2, nu := store_two h3 e1 e2 hb _ _, nq := store_two h1 e1 e2 hb _ _, nr := store_two h2 e1 e2 hb _ _,
       cv := keep_set _ _ _ (by omega) (keep_set _ _ _ (by omega) h5), fv := by rw [frozen_set, frozen_set]; exact h6, bel := bset (bset h4 _ (by omega) _ _) _ (by omega) _ _ }
  clear hHeld hSu hc2 hf2 e1 e2 g1 g2 h1 h2 h3 h4 h5 h6 k1 k2
  generalize ((w11.setCell ⟨bq, 0, none⟩ (.slice a10 m10 c10)).setCell ⟨br, 0, none⟩ (.slice a11 m11 c11)) = wy at *
  have HNE : Hid (bu ≠ W.heap.size + 1 ∧ bq ≠ W.heap.size + 1 ∧ br ≠ W.heap.size + 1) := ⟨by omega, by omega, by omega⟩
  have HQ := hide (nat_lt_300 (unhide HS).1 (unhide HS).2.1 (1 * 2 ^ k))
  go_wp2_with fail
  have HD := hide ((unhide HD).below ((Below.refl _ _).drew))
  refine wp_region_held_drew (S := fun w' => w'.cell? ⟨bu, 0, none⟩ = some (.slice a2 m2 c2) ∧ w'.cell? ⟨bq, 0, none⟩ = some (.slice a10 m10 c10) ∧ w'.cell? ⟨br, 0, none⟩ = some (.slice a11 m11 c11) ∧ Room (W.heap.size + 1) 1 w') (by kernel_rfl) ?_ (fun hHeld => ?_)
  · (try dsimp only)
    exact ⟨(unhide HD).cu, (unhide HD).cq, (unhide HD).cr, room1 (unhide HD).cv (unhide HD).fv⟩
  refine lst0 12 (by kernel_rfl) ?_
  refine tkH 0 30 1 ?v0z rfl (by kernel_rfl) (by kernel_rfl) (fun _ _ _ h => h) (by assumption) (Or.inl ⟨by rfl, ?y0z⟩) ?_
  case y0z => ((intro w hSw; (try dsimp only at hSw); go_simp) <;> with_reducible rfl)
  (try simp only [Act.put, List.setIfInBounds_toArray, List.set_cons_zero, List.set_cons_succ])
  refine tkH 1 31 3 ?v1z rfl (by kernel_rfl) (by kernel_rfl) (fun _ _ _ h => h) (by assumption) (Or.inl ⟨by rfl, ?y1z⟩) ?_
  case y1z => ((intro w hSw; (try dsimp only at hSw); go_simp) <;> with_reducible rfl)
  (try simp only [Act.put, List.setIfInBounds_toArray, List.set_cons_zero, List.set_cons_succ])
  refine tkH 3 33 11 ?v3z rfl (by kernel_rfl) (by kernel_rfl) (fun _ _ _ h => h) (by assumption) (Or.inl ⟨by rfl, ?y3z⟩) ?_
  case y3z => ((intro w hSw; (try dsimp only at hSw); go_simp) <;> with_reducible rfl)
  (try simp only [Act.put, List.setIfInBounds_toArray, List.set_cons_zero, List.set_cons_succ])
  refine tkH 5 35 43 ?v5z rfl (by kernel_rfl) (by kernel_rfl) (fun _ _ _ h => h) (by assumption) (Or.inl ⟨by rfl, ?y5z⟩) ?_
  case y5z => ((intro w hSw; (try dsimp only at hSw); go_simp) <;> with_reducible rfl)
  (try simp only [Act.put, List.setIfInBounds_toArray, List.set_cons_zero, List.set_cons_succ])
  refine tkH 6 36 107 ?v6z rfl (by kernel_rfl) (by kernel_rfl) (fun _ _ _ h => h) (by assumption) (Or.inl ⟨by rfl, ?y6z⟩) ?_
  case y6z => ((intro w hSw; (try dsimp only at hSw); go_simp) <;> with_reducible rfl)
  (try simp only [Act.put, List.setIfInBounds_toArray, List.set_cons_zero, List.set_cons_succ])
  refine tkH 7 37 235 ?v7z rfl (by kernel_rfl) (by kernel_rfl) (fun _ _ _ h => h) (by assumption) (Or.inl ⟨by rfl, ?y7z⟩) ?_
  case y7z => ((intro w hSw; (try dsimp only at hSw); go_simp) <;> with_reducible rfl)
  (try simp only [Act.put, List.setIfInBounds_toArray, List.set_cons_zero, List.set_cons_succ])
  refine tkH 8 38 491 ?v8z rfl (by kernel_rfl) (by kernel_rfl) (fun _ _ _ h => h) (by assumption) (Or.inl ⟨by rfl, ?y8z⟩) ?_
  case y8z => ((intro w hSw; (try dsimp only at hSw); go_simp) <;> with_reducible rfl)
  (try simp only [Act.put, List.setIfInBounds_toArray, List.set_cons_zero, List.set_cons_succ])
  refine rdH 2 495 rfl (by kernel_rfl) (by kernel_rfl) (fun Kk hKk => ?_)
  go_simp
  refine (shl_one _ _ _ _ _ (unhide HD).nr (Nat.le_trans ((unhide HD).nr.short (unhide HQ)) (by omega))).mono ?_
  rintro _ w3 ⟨s3, rfl, hN3, hbl⟩
  obtain ⟨a3, m3, c3, rfl⟩ := hN3.slice
  have H3 := hide hN3
  have HD := hide ((unhide HD).below hbl)
  clear hbl hN3
  (try go_wp2_with fail)
  refine hKk.out _ _ ?_ (fun hHeld => ?_)
  · (try dsimp only)
    exact ⟨(unhide HD).cu, (unhide HD).cq, (unhide HD).cr, room1 (unhide HD).cv (unhide HD).fv⟩
  clear hKk Kk
  (try simp only [List.setIfInBounds_toArray, List.set_cons_zero, List.set_cons_succ])
  refine rdH 4 511 rfl (by kernel_rfl) (by kernel_rfl) (fun Kk hKk => ?_)
  go_simp
  refine (refCmp_any _ _ _ _ _ _ _ _ _ (unhide H3) (unhide HD).nu).mono ?_
  rintro _ w4 ⟨rfl, hbl⟩
  have HD := hide ((unhide HD).below hbl)
  clear hbl H3
  (try go_wp2_with fail)
  refine hKk.out _ _ ?_ (fun hHeld => ?_)
  · (try dsimp only)
    exact ⟨(unhide HD).cu, (unhide HD).cq, (unhide HD).cr, room1 (unhide HD).cv (unhide HD).fv⟩
  clear hKk Kk
  (try simp only [List.setIfInBounds_toArray, List.set_cons_zero, List.set_cons_succ])
  refine rdH 9 1023 rfl (by kernel_rfl) (by kernel_rfl) (fun Kk hKk => ?_)
  obtain ⟨⟨v0, c0⟩, r0⟩ := hHeld.2.2.2 0 (by omega)
  go_simp
  refine hKk.out _ _ ?_ (fun hHeld => ?_)
  · (try dsimp only)
    exact ⟨keep_set _ _ _ (unhide HNE).1 hHeld.1, keep_set _ _ _ (unhide HNE).2.1 hHeld.2.1, keep_set _ _ _ (unhide HNE).2.2 hHeld.2.2.1, hHeld.2.2.2.set _ _⟩
  clear hKk Kk
  (try simp only [List.setIfInBounds_toArray, List.set_cons_zero, List.set_cons_succ])
  refine tkH 10 3 2047 ?v10z rfl (by kernel_rfl) (by kernel_rfl) (fun _ _ _ h => h) (by assumption) (Or.inl ⟨by rfl, ?y10z⟩) ?_
  case y10z => ((intro w hSw; (try dsimp only at hSw); go_simp) <;> with_reducible rfl)
  (try simp only [Act.put, List.setIfInBounds_toArray, List.set_cons_zero, List.set_cons_succ])
  refine tkH 11 4 4095 ?v11z rfl (by kernel_rfl) (by kernel_rfl) (fun _ _ _ h => h) (by assumption) (Or.inl ⟨by rfl, ?y11z⟩) ?_
  case y11z => ((intro w hSw; (try dsimp only at hSw); go_simp) <;> with_reducible rfl)
  (try simp only [Act.put, List.setIfInBounds_toArray, List.set_cons_zero, List.set_cons_succ])
  refine wpAnyH_done (by kernel_rfl) ?_ _
  go_wp2
  refine bodyPost_ret (v := .tuple #[.agg #[.slice a10 m10 c10], .int .i64 (cmpN (S1.toNat % (1 * 2 ^ k) * 2 ^ 1) (1 * 2 ^ k)), .bool (decide ((0 : Int) < (m11 : Int)))]) (by simp [results, Try.results15, go_sem, c0]) rfl ⟨.slice a10 m10 c10, ?_, (unhide HD).nq.store (unhide HD).cv _, bset (unhide HD).bel _ (by omega) _ _⟩
  have h := (unhide HD).nr.pos
  simp only [← h]
  simp

end Go.Proofs.Ytepdmpcgkecjiaa
namespace Go.Proofs.Ytepdmpcgkecjiaa
open Go.RowKit
open Go.Proofs.Ytepdmpcgkecjiaa.W

set_option maxRecDepth 100000 in
set_option maxHeartbeats 2000000 in
theorem rmake_nan {w x K1 X1 S1 V y : Int} {n1 : Bool} (W : World) (HO : Hid (∀ W, Calls Try.prog 14 #[.int .i64 w, .int .u64 x] W fun r W' => r = .returned (.agg #[.bool n1, .int .i64 K1, .int .i64 X1, .int .u64 S1]) ∧ Below W.heap.size W W')) (k3 : (K1 == 3) = true) (HC : Hid (∀ W, Calls Try.prog 30 #[.int .i64 w] W fun r W' => r = .returned (.int .u64 V) ∧ Below W.heap.size W W')) :
    Calls Try.prog 12 #[.int .i64 w, .int .u64 x, .int .i64 y] W fun r W' => r = .returned (.int .u64 V) ∧ Below W.heap.size W W' := by
  go_enter Try.func12, Try.ntmps12
  go_wp2_with fail
  refine (unhide HO _).mono ?_
  rintro _ w1 ⟨rfl, hb⟩
  have HB := hide (balloc hb (.cells #[.bool n1, .int .i64 K1, .int .i64 X1, .int .u64 S1] 30))
  have HA := hide (at4_new w1 (.bool n1) (.int .i64 K1) (.int .i64 X1) (.int .u64 S1) 30)
  have HZ0 := hide hb.size
  clear hb
  obtain ⟨c0, c1, c2, c3⟩ := unhide HA
  go_wp2_with fail
  clear c0 c1 c2 c3
  refine (unhide HC _).mono ?_
  rintro _ w2 ⟨rfl, hb⟩
  have HB := hide (bthen (unhide HB) hb)
  clear hb
  go_wp2_with fail
  go_ret
  exact ⟨rfl, unhide HB⟩
set_option maxRecDepth 100000 in
set_option maxHeartbeats 2000000 in
theorem rmake_cut {w x K1 X1 S1 V y : Int} {n1 : Bool} (W : World) (HO : Hid (∀ W, Calls Try.prog 14 #[.int .i64 w, .int .u64 x] W fun r W' => r = .returned (.agg #[.bool n1, .int .i64 K1, .int .i64 X1, .int .u64 S1]) ∧ Below W.heap.size W W')) (k3 : (K1 == 3) = false) (k1 : (K1 != 1) = true) (HC : Hid (∀ W, Calls Try.prog 31 #[.int .i64 w, .int .u64 x] W fun r W' => r = .returned (.int .u64 V) ∧ Below W.heap.size W W')) :
    Calls Try.prog 12 #[.int .i64 w, .int .u64 x, .int .i64 y] W fun r W' => r = .returned (.int .u64 V) ∧ Below W.heap.size W W' := by
  go_enter Try.func12, Try.ntmps12
  go_wp2_with fail
  refine (unhide HO _).mono ?_
  rintro _ w1 ⟨rfl, hb⟩
  have HB := hide (balloc hb (.cells #[.bool n1, .int .i64 K1, .int .i64 X1, .int .u64 S1] 30))
  have HA := hide (at4_new w1 (.bool n1) (.int .i64 K1) (.int .i64 X1) (.int .u64 S1) 30)
  have HZ0 := hide hb.size
  clear hb
  obtain ⟨c0, c1, c2, c3⟩ := unhide HA
  go_wp2_with fail
  clear c0 c1 c2 c3
  refine (unhide HC _).mono ?_
  rintro _ w2 ⟨rfl, hb⟩
  have HB := hide (bthen (unhide HB) hb)
  clear hb
  go_wp2_with fail
  go_ret
  exact ⟨rfl, unhide HB⟩
set_option maxRecDepth 100000 in
set_option maxHeartbeats 2000000 in
theorem rmake_1f {w x K1 X1 S1 V h : Int} {n1 : Bool} (W : World) (HO : Hid (∀ W, Calls Try.prog 14 #[.int .i64 w, .int .u64 x] W fun r W' => r = .returned (.agg #[.bool n1, .int .i64 K1, .int .i64 X1, .int .u64 S1]) ∧ Below W.heap.size W W')) (z : Nat) (k3 : (K1 == 3) = false) (k1 : (K1 != 1) = false) (HD : Hid (∀ W, Calls Try.prog 15 #[.agg #[.bool n1, .int .i64 K1, .int .i64 X1, .int .u64 S1]] W fun e w' => ∃ s, e = .returned (.tuple #[.agg #[s], .int .i64 h, .bool false]) ∧ IsNat w' s z ∧ Below W.heap.size W w'))  (HE : Hid (∀ (a : Option Addr) (m c : Nat) (W : World), IsNat W (.slice a m c) (z) → Calls Try.prog 35 #[.int .i64 w, .bool n1, .agg #[.slice a m c], .int .i64 0] W fun r W' => r = .returned (.int .u64 V) ∧ Below W.heap.size W W')) :
    Calls Try.prog 12 #[.int .i64 w, .int .u64 x, .int .i64 1] W fun r W' => r = .returned (.int .u64 V) ∧ Below W.heap.size W W' := by
  go_enter Try.func12, Try.ntmps12
  go_wp2_with fail
  refine (unhide HO _).mono ?_
  rintro _ w1 ⟨rfl, hb⟩
  have HB := hide (balloc hb (.cells #[.bool n1, .int .i64 K1, .int .i64 X1, .int .u64 S1] 30))
  have HA := hide (at4_new w1 (.bool n1) (.int .i64 K1) (.int .i64 X1) (.int .u64 S1) 30)
  have HZ0 := hide hb.size
  clear hb
  obtain ⟨c0, c1, c2, c3⟩ := unhide HA
  go_wp2_with fail
  clear c0 c1 c2 c3
  refine (unhide HD _).mono ?_
  rintro _ w2 ⟨s2, rfl, hN, hb⟩
  obtain ⟨a2, m2, c2, rfl⟩ := hN.slice
  have HB := hide (balloc (bthen (unhide HB) hb) (.cells #[.slice a2 m2 c2] 33))
  have HA := hide (((unhide HA).below hb).below (below1 _ (.cells #[.slice a2 m2 c2] 33)))
  have HN := hide (hN.below (below1 _ (.cells #[.slice a2 m2 c2] 33)))
  have HM : Hid ((w2.alloc (.cells #[.slice a2 m2 c2] 33)).cell? ⟨w2.heap.size, 0, none⟩ = some (.slice a2 m2 c2) ∧ (w2.alloc (.cells #[.slice a2 m2 c2] 33)).frozen? ⟨w2.heap.size, 0, none⟩ = false) := ⟨by simp [go_sem], by simp [go_sem]⟩
  have HZ : Hid (W.heap.size ≤ w2.heap.size ∧ w1.heap.size < w2.heap.size) := ⟨by have := unhide HZ0; have := hb.size; simp at this; omega, by have := hb.size; simp at this; omega⟩
  clear hb hN
  obtain ⟨c0, c1, c2', c3⟩ := unhide HA
  obtain ⟨cn, fn⟩ := unhide HM
  go_wp2_with fail
  clear c0 c1 c2' c3 cn fn
  generalize w2.alloc (.cells #[.slice a2 m2 c2] 33) = w2' at *
  refine (unhide HE _ _ _ _ (unhide HN)).mono ?_
  rintro _ wz ⟨rfl, hbl⟩
  have HB := hide (bthen (unhide HB) hbl)
  go_wp2_with fail
  go_ret
  exact ⟨rfl, unhide HB⟩
set_option maxRecDepth 100000 in
set_option maxHeartbeats 2000000 in
theorem rmake_1n {w x K1 X1 S1 V h : Int} (W : World) (HO : Hid (∀ W, Calls Try.prog 14 #[.int .i64 w, .int .u64 x] W fun r W' => r = .returned (.agg #[.bool true, .int .i64 K1, .int .i64 X1, .int .u64 S1]) ∧ Below W.heap.size W W')) (z : Nat) (k3 : (K1 == 3) = false) (k1 : (K1 != 1) = false) (HD : Hid (∀ W, Calls Try.prog 15 #[.agg #[.bool true, .int .i64 K1, .int .i64 X1, .int .u64 S1]] W fun e w' => ∃ s, e = .returned (.tuple #[.agg #[s], .int .i64 h, .bool true]) ∧ IsNat w' s z ∧ Below W.heap.size W w'))  (HE : Hid (∀ (a : Option Addr) (m c : Nat) (W : World), IsNat W (.slice a m c) (z) → Calls Try.prog 35 #[.int .i64 w, .bool true, .agg #[.slice a m c], .int .i64 0] W fun r W' => r = .returned (.int .u64 V) ∧ Below W.heap.size W W')) :
    Calls Try.prog 12 #[.int .i64 w, .int .u64 x, .int .i64 1] W fun r W' => r = .returned (.int .u64 V) ∧ Below W.heap.size W W' := by
  go_enter Try.func12, Try.ntmps12
  go_wp2_with fail
  refine (unhide HO _).mono ?_
  rintro _ w1 ⟨rfl, hb⟩
  have HB := hide (balloc hb (.cells #[.bool true, .int .i64 K1, .int .i64 X1, .int .u64 S1] 30))
  have HA := hide (at4_new w1 (.bool true) (.int .i64 K1) (.int .i64 X1) (.int .u64 S1) 30)
  have HZ0 := hide hb.size
  clear hb
  obtain ⟨c0, c1, c2, c3⟩ := unhide HA
  go_wp2_with fail
  clear c0 c1 c2 c3
  refine (unhide HD _).mono ?_
  rintro _ w2 ⟨s2, rfl, hN, hb⟩
  obtain ⟨a2, m2, c2, rfl⟩ := hN.slice
  have HB := hide (balloc (bthen (unhide HB) hb) (.cells #[.slice a2 m2 c2] 33))
  have HA := hide (((unhide HA).below hb).below (below1 _ (.cells #[.slice a2 m2 c2] 33)))
  have HN := hide (hN.below (below1 _ (.cells #[.slice a2 m2 c2] 33)))
  have HM : Hid ((w2.alloc (.cells #[.slice a2 m2 c2] 33)).cell? ⟨w2.heap.size, 0, none⟩ = some (.slice a2 m2 c2) ∧ (w2.alloc (.cells #[.slice a2 m2 c2] 33)).frozen? ⟨w2.heap.size, 0, none⟩ = false) := ⟨by simp [go_sem], by simp [go_sem]⟩
  have HZ : Hid (W.heap.size ≤ w2.heap.size ∧ w1.heap.size < w2.heap.size) := ⟨by have := unhide HZ0; have := hb.size; simp at this; omega, by have := hb.size; simp at this; omega⟩
  clear hb hN
  obtain ⟨c0, c1, c2', c3⟩ := unhide HA
  obtain ⟨cn, fn⟩ := unhide HM
  go_wp2_with fail
  clear c0 c1 c2' c3 cn fn
  generalize w2.alloc (.cells #[.slice a2 m2 c2] 33) = w2' at *
  refine (unhide HE _ _ _ _ (unhide HN)).mono ?_
  rintro _ wz ⟨rfl, hbl⟩
  have HB := hide (bthen (unhide HB) hbl)
  go_wp2_with fail
  go_ret
  exact ⟨rfl, unhide HB⟩
set_option maxRecDepth 100000 in
set_option maxHeartbeats 2000000 in
theorem rmake_2f {w x K1 X1 S1 V h : Int} {n1 : Bool} (W : World) (HO : Hid (∀ W, Calls Try.prog 14 #[.int .i64 w, .int .u64 x] W fun r W' => r = .returned (.agg #[.bool n1, .int .i64 K1, .int .i64 X1, .int .u64 S1]) ∧ Below W.heap.size W W')) (z : Nat) (k3 : (K1 == 3) = false) (k1 : (K1 != 1) = false) (HD : Hid (∀ W, Calls Try.prog 15 #[.agg #[.bool n1, .int .i64 K1, .int .i64 X1, .int .u64 S1]] W fun e w' => ∃ s, e = .returned (.tuple #[.agg #[s], .int .i64 h, .bool false]) ∧ IsNat w' s z ∧ Below W.heap.size W w'))  (HE : Hid (∀ (a : Option Addr) (m c : Nat) (W : World), IsNat W (.slice a m c) (z) → Calls Try.prog 35 #[.int .i64 w, .bool n1, .agg #[.slice a m c], .int .i64 0] W fun r W' => r = .returned (.int .u64 V) ∧ Below W.heap.size W W')) :
    Calls Try.prog 12 #[.int .i64 w, .int .u64 x, .int .i64 2] W fun r W' => r = .returned (.int .u64 V) ∧ Below W.heap.size W W' := by
  go_enter Try.func12, Try.ntmps12
  go_wp2_with fail
  refine (unhide HO _).mono ?_
  rintro _ w1 ⟨rfl, hb⟩
  have HB := hide (balloc hb (.cells #[.bool n1, .int .i64 K1, .int .i64 X1, .int .u64 S1] 30))
  have HA := hide (at4_new w1 (.bool n1) (.int .i64 K1) (.int .i64 X1) (.int .u64 S1) 30)
  have HZ0 := hide hb.size
  clear hb
  obtain ⟨c0, c1, c2, c3⟩ := unhide HA
  go_wp2_with fail
  clear c0 c1 c2 c3
  refine (unhide HD _).mono ?_
  rintro _ w2 ⟨s2, rfl, hN, hb⟩
  obtain ⟨a2, m2, c2, rfl⟩ := hN.slice
  have HB := hide (balloc (bthen (unhide HB) hb) (.cells #[.slice a2 m2 c2] 33))
  have HA := hide (((unhide HA).below hb).below (below1 _ (.cells #[.slice a2 m2 c2] 33)))
  have HN := hide (hN.below (below1 _ (.cells #[.slice a2 m2 c2] 33)))
  have HM : Hid ((w2.alloc (.cells #[.slice a2 m2 c2] 33)).cell? ⟨w2.heap.size, 0, none⟩ = some (.slice a2 m2 c2) ∧ (w2.alloc (.cells #[.slice a2 m2 c2] 33)).frozen? ⟨w2.heap.size, 0, none⟩ = false) := ⟨by simp [go_sem], by simp [go_sem]⟩
  have HZ : Hid (W.heap.size ≤ w2.heap.size ∧ w1.heap.size < w2.heap.size) := ⟨by have := unhide HZ0; have := hb.size; simp at this; omega, by have := hb.size; simp at this; omega⟩
  clear hb hN
  obtain ⟨c0, c1, c2', c3⟩ := unhide HA
  obtain ⟨cn, fn⟩ := unhide HM
  go_wp2_with fail
  clear c0 c1 c2' c3 cn fn
  generalize w2.alloc (.cells #[.slice a2 m2 c2] 33) = w2' at *
  refine (unhide HE _ _ _ _ (unhide HN)).mono ?_
  rintro _ wz ⟨rfl, hbl⟩
  have HB := hide (bthen (unhide HB) hbl)
  go_wp2_with fail
  go_ret
  exact ⟨rfl, unhide HB⟩
set_option maxRecDepth 100000 in
set_option maxHeartbeats 2000000 in
theorem rmake_2p {w x K1 X1 S1 V h : Int} (W : World) (HO : Hid (∀ W, Calls Try.prog 14 #[.int .i64 w, .int .u64 x] W fun r W' => r = .returned (.agg #[.bool false, .int .i64 K1, .int .i64 X1, .int .u64 S1]) ∧ Below W.heap.size W W')) (z : Nat) (k3 : (K1 == 3) = false) (k1 : (K1 != 1) = false) (HD : Hid (∀ W, Calls Try.prog 15 #[.agg #[.bool false, .int .i64 K1, .int .i64 X1, .int .u64 S1]] W fun e w' => ∃ s, e = .returned (.tuple #[.agg #[s], .int .i64 h, .bool true]) ∧ IsNat w' s z ∧ Below W.heap.size W w'))  (HE : Hid (∀ (a : Option Addr) (m c : Nat) (W : World), IsNat W (.slice a m c) (z) → Calls Try.prog 35 #[.int .i64 w, .bool false, .agg #[.slice a m c], .int .i64 0] W fun r W' => r = .returned (.int .u64 V) ∧ Below W.heap.size W W')) :
    Calls Try.prog 12 #[.int .i64 w, .int .u64 x, .int .i64 2] W fun r W' => r = .returned (.int .u64 V) ∧ Below W.heap.size W W' := by
  go_enter Try.func12, Try.ntmps12
  go_wp2_with fail
  refine (unhide HO _).mono ?_
  rintro _ w1 ⟨rfl, hb⟩
  have HB := hide (balloc hb (.cells #[.bool false, .int .i64 K1, .int .i64 X1, .int .u64 S1] 30))
  have HA := hide (at4_new w1 (.bool false) (.int .i64 K1) (.int .i64 X1) (.int .u64 S1) 30)
  have HZ0 := hide hb.size
  clear hb
  obtain ⟨c0, c1, c2, c3⟩ := unhide HA
  go_wp2_with fail
  clear c0 c1 c2 c3
  refine (unhide HD _).mono ?_
  rintro _ w2 ⟨s2, rfl, hN, hb⟩
  obtain ⟨a2, m2, c2, rfl⟩ := hN.slice
  have HB := hide (balloc (bthen (unhide HB) hb) (.cells #[.slice a2 m2 c2] 33))
  have HA := hide (((unhide HA).below hb).below (below1 _ (.cells #[.slice a2 m2 c2] 33)))
  have HN := hide (hN.below (below1 _ (.cells #[.slice a2 m2 c2] 33)))
  have HM : Hid ((w2.alloc (.cells #[.slice a2 m2 c2] 33)).cell? ⟨w2.heap.size, 0, none⟩ = some (.slice a2 m2 c2) ∧ (w2.alloc (.cells #[.slice a2 m2 c2] 33)).frozen? ⟨w2.heap.size, 0, none⟩ = false) := ⟨by simp [go_sem], by simp [go_sem]⟩
  have HZ : Hid (W.heap.size ≤ w2.heap.size ∧ w1.heap.size < w2.heap.size) := ⟨by have := unhide HZ0; have := hb.size; simp at this; omega, by have := hb.size; simp at this; omega⟩
  clear hb hN
  obtain ⟨c0, c1, c2', c3⟩ := unhide HA
  obtain ⟨cn, fn⟩ := unhide HM
  go_wp2_with fail
  clear c0 c1 c2' c3 cn fn
  generalize w2.alloc (.cells #[.slice a2 m2 c2] 33) = w2' at *
  refine (unhide HE _ _ _ _ (unhide HN)).mono ?_
  rintro _ wz ⟨rfl, hbl⟩
  have HB := hide (bthen (unhide HB) hbl)
  go_wp2_with fail
  go_ret
  exact ⟨rfl, unhide HB⟩
set_option maxRecDepth 100000 in
set_option maxHeartbeats 2000000 in
theorem rmake_3 {w x K1 X1 S1 V h : Int} {n1 l : Bool} (W : World) (HO : Hid (∀ W, Calls Try.prog 14 #[.int .i64 w, .int .u64 x] W fun r W' => r = .returned (.agg #[.bool n1, .int .i64 K1, .int .i64 X1, .int .u64 S1]) ∧ Below W.heap.size W W')) (z : Nat) (k3 : (K1 == 3) = false) (k1 : (K1 != 1) = false) (HD : Hid (∀ W, Calls Try.prog 15 #[.agg #[.bool n1, .int .i64 K1, .int .i64 X1, .int .u64 S1]] W fun e w' => ∃ s, e = .returned (.tuple #[.agg #[s], .int .i64 h, .bool l]) ∧ IsNat w' s z ∧ Below W.heap.size W w'))  (HE : Hid (∀ (a : Option Addr) (m c : Nat) (W : World), IsNat W (.slice a m c) (z) → Calls Try.prog 35 #[.int .i64 w, .bool n1, .agg #[.slice a m c], .int .i64 0] W fun r W' => r = .returned (.int .u64 V) ∧ Below W.heap.size W W')) :
    Calls Try.prog 12 #[.int .i64 w, .int .u64 x, .int .i64 3] W fun r W' => r = .returned (.int .u64 V) ∧ Below W.heap.size W W' := by
  go_enter Try.func12, Try.ntmps12
  go_wp2_with fail
  refine (unhide HO _).mono ?_
  rintro _ w1 ⟨rfl, hb⟩
  have HB := hide (balloc hb (.cells #[.bool n1, .int .i64 K1, .int .i64 X1, .int .u64 S1] 30))
  have HA := hide (at4_new w1 (.bool n1) (.int .i64 K1) (.int .i64 X1) (.int .u64 S1) 30)
  have HZ0 := hide hb.size
  clear hb
  obtain ⟨c0, c1, c2, c3⟩ := unhide HA
  go_wp2_with fail
  clear c0 c1 c2 c3
  refine (unhide HD _).mono ?_
  rintro _ w2 ⟨s2, rfl, hN, hb⟩
  obtain ⟨a2, m2, c2, rfl⟩ := hN.slice
  have HB := hide (balloc (bthen (unhide HB) hb) (.cells #[.slice a2 m2 c2] 33))
  have HA := hide (((unhide HA).below hb).below (below1 _ (.cells #[.slice a2 m2 c2] 33)))
  have HN := hide (hN.below (below1 _ (.cells #[.slice a2 m2 c2] 33)))
  have HM : Hid ((w2.alloc (.cells #[.slice a2 m2 c2] 33)).cell? ⟨w2.heap.size, 0, none⟩ = some (.slice a2 m2 c2) ∧ (w2.alloc (.cells #[.slice a2 m2 c2] 33)).frozen? ⟨w2.heap.size, 0, none⟩ = false) := ⟨by simp [go_sem], by simp [go_sem]⟩
  have HZ : Hid (W.heap.size ≤ w2.heap.size ∧ w1.heap.size < w2.heap.size) := ⟨by have := unhide HZ0; have := hb.size; simp at this; omega, by have := hb.size; simp at this; omega⟩
  clear hb hN
  obtain ⟨c0, c1, c2', c3⟩ := unhide HA
  obtain ⟨cn, fn⟩ := unhide HM
  go_wp2_with fail
  clear c0 c1 c2' c3 cn fn
  generalize w2.alloc (.cells #[.slice a2 m2 c2] 33) = w2' at *
  refine (unhide HE _ _ _ _ (unhide HN)).mono ?_
  rintro _ wz ⟨rfl, hbl⟩
  have HB := hide (bthen (unhide HB) hbl)
  go_wp2_with fail
  go_ret
  exact ⟨rfl, unhide HB⟩
set_option maxRecDepth 100000 in
set_option maxHeartbeats 2000000 in
theorem rmake_4l {w x K1 X1 S1 V : Int} {n1 l : Bool} (W : World) (HO : Hid (∀ W, Calls Try.prog 14 #[.int .i64 w, .int .u64 x] W fun r W' => r = .returned (.agg #[.bool n1, .int .i64 K1, .int .i64 X1, .int .u64 S1]) ∧ Below W.heap.size W W')) (z : Nat) (k3 : (K1 == 3) = false) (k1 : (K1 != 1) = false) (HD : Hid (∀ W, Calls Try.prog 15 #[.agg #[.bool n1, .int .i64 K1, .int .i64 X1, .int .u64 S1]] W fun e w' => ∃ s, e = .returned (.tuple #[.agg #[s], .int .i64 (-1), .bool l]) ∧ IsNat w' s z ∧ Below W.heap.size W w'))  (HE : Hid (∀ (a : Option Addr) (m c : Nat) (W : World), IsNat W (.slice a m c) (z) → Calls Try.prog 35 #[.int .i64 w, .bool n1, .agg #[.slice a m c], .int .i64 0] W fun r W' => r = .returned (.int .u64 V) ∧ Below W.heap.size W W')) :
    Calls Try.prog 12 #[.int .i64 w, .int .u64 x, .int .i64 4] W fun r W' => r = .returned (.int .u64 V) ∧ Below W.heap.size W W' := by
  go_enter Try.func12, Try.ntmps12
  go_wp2_with fail
  refine (unhide HO _).mono ?_
  rintro _ w1 ⟨rfl, hb⟩
  have HB := hide (balloc hb (.cells #[.bool n1, .int .i64 K1, .int .i64 X1, .int .u64 S1] 30))
  have HA := hide (at4_new w1 (.bool n1) (.int .i64 K1) (.int .i64 X1) (.int .u64 S1) 30)
  have HZ0 := hide hb.size
  clear hb
  obtain ⟨c0, c1, c2, c3⟩ := unhide HA
  go_wp2_with fail
  clear c0 c1 c2 c3
  refine (unhide HD _).mono ?_
  rintro _ w2 ⟨s2, rfl, hN, hb⟩
  obtain ⟨a2, m2, c2, rfl⟩ := hN.slice
  have HB := hide (balloc (bthen (unhide HB) hb) (.cells #[.slice a2 m2 c2] 33))
  have HA := hide (((unhide HA).below hb).below (below1 _ (.cells #[.slice a2 m2 c2] 33)))
  have HN := hide (hN.below (below1 _ (.cells #[.slice a2 m2 c2] 33)))
  have HM : Hid ((w2.alloc (.cells #[.slice a2 m2 c2] 33)).cell? ⟨w2.heap.size, 0, none⟩ = some (.slice a2 m2 c2) ∧ (w2.alloc (.cells #[.slice a2 m2 c2] 33)).frozen? ⟨w2.heap.size, 0, none⟩ = false) := ⟨by simp [go_sem], by simp [go_sem]⟩
  have HZ : Hid (W.heap.size ≤ w2.heap.size ∧ w1.heap.size < w2.heap.size) := ⟨by have := unhide HZ0; have := hb.size; simp at this; omega, by have := hb.size; simp at this; omega⟩
  clear hb hN
  obtain ⟨c0, c1, c2', c3⟩ := unhide HA
  obtain ⟨cn, fn⟩ := unhide HM
  go_wp2_with fail
  clear c0 c1 c2' c3 cn fn
  generalize w2.alloc (.cells #[.slice a2 m2 c2] 33) = w2' at *
  refine (unhide HE _ _ _ _ (unhide HN)).mono ?_
  rintro _ wz ⟨rfl, hbl⟩
  have HB := hide (bthen (unhide HB) hbl)
  go_wp2_with fail
  go_ret
  exact ⟨rfl, unhide HB⟩

end Go.Proofs.Ytepdmpcgkecjiaa
