/- WhB, NearA, NearC. -/
import Derived.Test.YtepdmpcgkecjiaaG01
import Derived.Test.YtepdmpcgkecjiaaG26
import Derived.Test.YtepdmpcgkecjiaaG27
import Derived.Test.YtepdmpcgkecjiaaG29
namespace Go.Proofs.Ytepdmpcgkecjiaa
open Go.RowKit
open Go.Proofs.Ytepdmpcgkecjiaa.W

set_option maxRecDepth 100000 in
set_option maxHeartbeats 2000000 in
theorem split_l {K1 X1 S1 h l h' l' E E1 n a o : Int} {n1 t : Bool} (W : World) (HO : Hid (∀ W, Calls Try.prog 63 #[.int .u64 S1] W fun r W' => r = .returned (.agg #[.int .u64 h, .int .u64 l]) ∧ Below W.heap.size W W')) (kx : IntKind.i64.wrap (-X1) = E) (ke : IntKind.i64.wrap (E - 1) = E1) (HR : Hid (∀ W, Calls Try.prog 69 #[.agg #[.int .u64 h, .int .u64 l], .int .i64 E1] W fun r W' => r = .returned (.tuple #[.agg #[.int .u64 h', .int .u64 l'], .bool t]) ∧ Below W.heap.size W W')) (kn : l' / 2 = n) (ka : bits .and .u64 l' 1 = a) (ko : bits .and .u64 n 1 = o) :
    Calls Try.prog 61 #[.agg #[.bool n1, .int .i64 K1, .int .i64 X1, .int .u64 S1]] W fun r W' => r = .returned (.tuple #[.int .u64 n, .agg #[.bool (a == 1), .bool t, .bool (o == 1)]]) ∧ Below W.heap.size W W' := by
  go_enter Try.func61, Try.ntmps61
  go_wp2_with fail
  have HB := hide (below2 W (.cells #[.bool n1, .int .i64 K1, .int .i64 X1, .int .u64 S1] 36) (.cells #[.bool false, .bool false, .bool false] 47)).drew
  have HA := hide ((at4_new2a W (.bool n1) (.int .i64 K1) (.int .i64 X1) (.int .u64 S1) 36 (.cells #[.bool false, .bool false, .bool false] 47)).below ((Below.refl _ _).drew))
  have HR3 : Hid (Room (W.heap.size + 1) 3 ((W.alloc (.cells #[.bool n1, .int .i64 K1, .int .i64 X1, .int .u64 S1] 36)).alloc (.cells #[.bool false, .bool false, .bool false] 47)).drew) := by
    intro o ho
    match o, ho with
    | 0, _ | 1, _ | 2, _ => simp [go_sem]
  refine wp_region_held_drew (S := fun w' => (w'.cell? ⟨W.heap.size, 0, none⟩ = some (.bool n1) ∧ w'.cell? ⟨W.heap.size, 1, none⟩ = some (.int .i64 K1) ∧ w'.cell? ⟨W.heap.size, 2, none⟩ = some (.int .i64 X1) ∧ w'.cell? ⟨W.heap.size, 3, none⟩ = some (.int .u64 S1)) ∧ Room (W.heap.size + 1) 3 w') (by kernel_rfl) ?_ (fun hHeld => ?_)
  · (try dsimp only)
    exact ⟨unhide HA, unhide HR3⟩
  refine wo_start (N := W.heap.size + 2) (i1 := 11) (d1 := 4) (v1 := #[.int .u64 0, .int .u64 0]) (t1 := 77) (f := 2) (n := 11) (T := fun w' => Below W.heap.size W w') (by kernel_rfl) (by kernel_rfl) (fun _ _ _ _ _ h => h) (fun _ _ h hb => ⟨At4.below h.1 hb, Room.below h.2 hb⟩) ?_ (stable_below W) hHeld (unhide HB) (by simp) ?_
  · intro a w K h
    unfold wpOp
    go_simp
    exact Or.inl h
  clear hHeld
  refine wo_take (i := 0) (oi := { dst := some 7, op := _, type := _, pos := _, after := _, guard := _ }) rfl (by kernel_rfl) (by kernel_rfl) (fun _ _ _ h => h) (Or.inl ⟨by rfl, fun w hSw => by (try dsimp only at hSw); go_simp; with_reducible rfl⟩) ?_
  (try simp only [Act.put, List.setIfInBounds_toArray, List.set_cons_zero, List.set_cons_succ])
  refine wo_take (i := 1) (oi := { dst := some 8, op := _, type := _, pos := _, after := _, guard := _ }) rfl (by kernel_rfl) (by kernel_rfl) (fun _ _ _ h => h) (Or.inl ⟨by rfl, fun w hSw => by (try dsimp only at hSw); go_simp; with_reducible rfl⟩) ?_
  (try simp only [Act.put, List.setIfInBounds_toArray, List.set_cons_zero, List.set_cons_succ])
  refine wo_take (i := 3) (oi := { dst := some 10, op := _, type := _, pos := _, after := _, guard := _ }) rfl (by kernel_rfl) (by kernel_rfl) (fun _ _ _ h => h) (Or.inl ⟨by rfl, fun w hSw => by (try dsimp only at hSw); go_simp; with_reducible rfl⟩) ?_
  (try simp only [Act.put, List.setIfInBounds_toArray, List.set_cons_zero, List.set_cons_succ])
  refine wo_take (i := 4) (oi := { dst := some 11, op := _, type := _, pos := _, after := _, guard := _ }) rfl (by kernel_rfl) (by kernel_rfl) (fun _ _ _ h => h) (Or.inl ⟨by rfl, fun w hSw => by (try dsimp only at hSw); go_simp; with_reducible rfl⟩) ?_
  (try simp only [Act.put, List.setIfInBounds_toArray, List.set_cons_zero, List.set_cons_succ])
  refine wo_take (i := 5) (oi := { dst := some 12, op := _, type := _, pos := _, after := _, guard := _ }) rfl (by kernel_rfl) (by kernel_rfl) (fun _ _ _ h => h) (Or.inl ⟨by rfl, fun w hSw => by (try dsimp only at hSw); go_simp; with_reducible rfl⟩) ?_
  (try simp only [Act.put, List.setIfInBounds_toArray, List.set_cons_zero, List.set_cons_succ])
  refine wo_take (i := 6) (oi := { dst := some 13, op := _, type := _, pos := _, after := _, guard := _ }) rfl (by kernel_rfl) (by kernel_rfl) (fun _ _ _ h => h) (Or.inl ⟨by rfl, fun w hSw => by (try dsimp only at hSw); go_simp; with_reducible rfl⟩) ?_
  (try simp only [Act.put, List.setIfInBounds_toArray, List.set_cons_zero, List.set_cons_succ])
  refine wo_call (c := 2) (o := { dst := some 9, op := _, type := _, pos := _, after := _, guard := _ }) rfl (by kernel_rfl) (by kernel_rfl) (fun u hSu hTu Kk hKk => ?_)
  go_simp
  refine (unhide HO _).mono ?_
  rintro _ wn ⟨rfl, hbl⟩
  have HTn := hide (bthen hTu hbl)
  clear hTu hSu
  (try go_wp2_with fail)
  refine hKk.out _ _ (fun w' => Below W.heap.size W w') (by assumption) (stable_below W) (unhide HTn) ?_
  clear hKk Kk HTn
  (try simp only [Act.put, List.setIfInBounds_toArray, List.set_cons_zero, List.set_cons_succ])
  refine wo_call (c := 7) (o := { dst := some 14, op := _, type := _, pos := _, after := _, guard := _ }) rfl (by kernel_rfl) (by kernel_rfl) (fun u hSu hTu Kk hKk => ?_)
  go_simp
  refine (unhide HR _).mono ?_
  rintro _ wn ⟨rfl, hbl⟩
  have HTn := hide (bthen hTu hbl)
  clear hTu hSu
  (try go_wp2_with fail)
  refine hKk.out _ _ (fun w' => Below W.heap.size W w') (by assumption) (stable_below W) (unhide HTn) ?_
  clear hKk Kk HTn
  (try simp only [Act.put, List.setIfInBounds_toArray, List.set_cons_zero, List.set_cons_succ])
  refine wo_take (i := 8) (oi := { dst := some 6, op := _, type := _, pos := _, after := _, guard := _ }) rfl (by kernel_rfl) (by kernel_rfl) (fun _ _ _ h => h) (Or.inl ⟨by rfl, fun w hSw => by (try dsimp only at hSw); go_simp; with_reducible rfl⟩) ?_
  (try simp only [Act.put, List.setIfInBounds_toArray, List.set_cons_zero, List.set_cons_succ])
  refine wo_take (i := 9) (oi := { dst := some 15, op := _, type := _, pos := _, after := _, guard := _ }) rfl (by kernel_rfl) (by kernel_rfl) (fun _ _ _ h => h) (Or.inl ⟨by rfl, fun w hSw => by (try dsimp only at hSw); go_simp; with_reducible rfl⟩) ?_
  (try simp only [Act.put, List.setIfInBounds_toArray, List.set_cons_zero, List.set_cons_succ])
  refine wo_take (i := 10) (oi := { dst := some 16, op := _, type := _, pos := _, after := _, guard := _ }) rfl (by kernel_rfl) (by kernel_rfl) (fun _ _ _ h => h) (Or.inl ⟨by rfl, fun w hSw => by (try dsimp only at hSw); go_simp; with_reducible rfl⟩) ?_
  (try simp only [Act.put, List.setIfInBounds_toArray, List.set_cons_zero, List.set_cons_succ])
  refine wo_fin (by kernel_rfl) (fun wf b1 hSu hTu k1 => ?_)
  (try simp only [Act.put, List.setIfInBounds_toArray, List.set_cons_zero, List.set_cons_succ])
  unfold ptr
  have zb := k1.base
  have HRm := hide (fresh_room2 k1)
  obtain ⟨⟨v0, c0⟩, f0⟩ := (unhide HRm) 0 (by omega)
  obtain ⟨⟨v1, c1⟩, f1⟩ := (unhide HRm) 1 (by omega)
  refine lstm 14 4095 (by kernel_rfl) ?_
  refine rdH 12 8191 rfl (by kernel_rfl) (by kernel_rfl) (fun Kk hKk => ?_)
  go_simp
  refine hKk.out _ _ ?_ (fun hHeld => ?_)
  · (try dsimp only)
    exact ⟨At4.set2 hSu.1 (by omega) _ _, (hSu.2.off (by omega) _ _).off (by omega) _ _⟩
  clear hKk Kk
  (try simp only [Act.put, List.setIfInBounds_toArray, List.set_cons_zero, List.set_cons_succ])
  refine tkH 13 5 16383 ?v13 rfl (by kernel_rfl) (by kernel_rfl) (fun _ _ _ h => h) (by assumption) (Or.inl ⟨by rfl, ?y13⟩) ?_
  case y13 => ((intro w hSw; (try dsimp only at hSw); go_simp) <;> with_reducible rfl)
  (try simp only [Act.put, List.setIfInBounds_toArray, List.set_cons_zero, List.set_cons_succ])
  refine wpAnyH_done (by kernel_rfl) ?_ _
  have HB := hide (bset2 (c := b1) hTu (by omega) (.int .u64 h') (.int .u64 l'))
  have H2 := hide (at2_set2 (unhide HRm) (.int .u64 h') (.int .u64 l'))
  have HR3 := hide hHeld.2
  clear hHeld hSu hTu k1 c0 c1 f0 f1 HA HRm
  generalize (wf.setCell ⟨b1, 0, none⟩ (.int .u64 h')).setCell ⟨b1, 1, none⟩ (.int .u64 l') = wx at *
  obtain ⟨c0, c1⟩ := unhide H2
  go_wp2_with fail
  clear c0 c1
  have HB := hide (unhide HB).drew
  have H2 := hide ((unhide H2).below ((Below.refl _ _).drew))
  have HR3 := hide ((unhide HR3).below ((Below.refl _ _).drew))
  refine wp_region_held_drew (S := fun w' => (w'.cell? ⟨b1, 0, none⟩ = some (.int .u64 h') ∧ w'.cell? ⟨b1, 1, none⟩ = some (.int .u64 l')) ∧ Room (W.heap.size + 1) 3 w') (by kernel_rfl) ?_ (fun hHeld => ?_)
  · (try dsimp only)
    exact ⟨unhide H2, unhide HR3⟩
  refine lst0 12 (by kernel_rfl) ?_
  refine tkH 0 20 1 ?v0b rfl (by kernel_rfl) (by kernel_rfl) (fun _ _ _ h => h) (by assumption) (Or.inl ⟨by rfl, ?y0b⟩) ?_
  case y0b => ((intro w hSw; (try dsimp only at hSw); go_simp) <;> with_reducible rfl)
  (try simp only [Act.put, List.setIfInBounds_toArray, List.set_cons_zero, List.set_cons_succ])
  refine tkH 1 21 3 ?v1b rfl (by kernel_rfl) (by kernel_rfl) (fun _ _ _ h => h) (by assumption) (Or.inl ⟨by rfl, ?y1b⟩) ?_
  case y1b => ((intro w hSw; (try dsimp only at hSw); go_simp) <;> with_reducible rfl)
  (try simp only [Act.put, List.setIfInBounds_toArray, List.set_cons_zero, List.set_cons_succ])
  refine tkH 2 22 7 ?v2b rfl (by kernel_rfl) (by kernel_rfl) (fun _ _ _ h => h) (by assumption) (Or.inl ⟨by rfl, ?y2b⟩) ?_
  case y2b => ((intro w hSw; (try dsimp only at hSw); go_simp) <;> with_reducible rfl)
  (try simp only [Act.put, List.setIfInBounds_toArray, List.set_cons_zero, List.set_cons_succ])
  refine tkH 3 23 15 ?v3b rfl (by kernel_rfl) (by kernel_rfl) (fun _ _ _ h => h) (by assumption) (Or.inl ⟨by rfl, ?y3b⟩) ?_
  case y3b => ((intro w hSw; (try dsimp only at hSw); go_simp) <;> with_reducible rfl)
  (try simp only [Act.put, List.setIfInBounds_toArray, List.set_cons_zero, List.set_cons_succ])
  refine tkH 4 24 31 ?v4b rfl (by kernel_rfl) (by kernel_rfl) (fun _ _ _ h => h) (by assumption) (Or.inl ⟨by rfl, ?y4b⟩) ?_
  case y4b => ((intro w hSw; (try dsimp only at hSw); go_simp) <;> with_reducible rfl)
  (try simp only [Act.put, List.setIfInBounds_toArray, List.set_cons_zero, List.set_cons_succ])
  refine tkH 5 25 63 ?v5b rfl (by kernel_rfl) (by kernel_rfl) (fun _ _ _ h => h) (by assumption) (Or.inl ⟨by rfl, ?y5b⟩) ?_
  case y5b => ((intro w hSw; (try dsimp only at hSw); go_simp) <;> with_reducible rfl)
  (try simp only [Act.put, List.setIfInBounds_toArray, List.set_cons_zero, List.set_cons_succ])
  refine tkH 6 26 127 ?v6b rfl (by kernel_rfl) (by kernel_rfl) (fun _ _ _ h => h) (by assumption) (Or.inl ⟨by rfl, ?y6b⟩) ?_
  case y6b => ((intro w hSw; (try dsimp only at hSw); go_simp) <;> with_reducible rfl)
  (try simp only [Act.put, List.setIfInBounds_toArray, List.set_cons_zero, List.set_cons_succ])
  refine tkH 7 27 255 ?v7b rfl (by kernel_rfl) (by kernel_rfl) (fun _ _ _ h => h) (by assumption) (Or.inl ⟨by rfl, ?y7b⟩) ?_
  case y7b => ((intro w hSw; (try dsimp only at hSw); go_simp) <;> with_reducible rfl)
  (try simp only [Act.put, List.setIfInBounds_toArray, List.set_cons_zero, List.set_cons_succ])
  refine tkH 8 28 511 ?v8b rfl (by kernel_rfl) (by kernel_rfl) (fun _ _ _ h => h) (by assumption) (Or.inl ⟨by rfl, ?y8b⟩) ?_
  case y8b => ((intro w hSw; (try dsimp only at hSw); go_simp) <;> with_reducible rfl)
  (try simp only [Act.put, List.setIfInBounds_toArray, List.set_cons_zero, List.set_cons_succ])
  refine tkH 9 29 1023 ?v9b rfl (by kernel_rfl) (by kernel_rfl) (fun _ _ _ h => h) (by assumption) (Or.inl ⟨by rfl, ?y9b⟩) ?_
  case y9b => ((intro w hSw; (try dsimp only at hSw); go_simp) <;> with_reducible rfl)
  (try simp only [Act.put, List.setIfInBounds_toArray, List.set_cons_zero, List.set_cons_succ])
  refine tkH 10 2 2047 ?v10b rfl (by kernel_rfl) (by kernel_rfl) (fun _ _ _ h => h) (by assumption) (Or.inl ⟨by rfl, ?y10b⟩) ?_
  case y10b => ((intro w hSw; (try dsimp only at hSw); go_simp) <;> with_reducible rfl)
  (try simp only [Act.put, List.setIfInBounds_toArray, List.set_cons_zero, List.set_cons_succ])
  refine rdH 11 4095 rfl (by kernel_rfl) (by kernel_rfl) (fun Kk hKk => ?_)
  obtain ⟨⟨v0, c0⟩, r0⟩ := hHeld.2 0 (by omega)
  obtain ⟨⟨v1, c1⟩, r1⟩ := hHeld.2 1 (by omega)
  obtain ⟨⟨v2, c2⟩, r2⟩ := hHeld.2 2 (by omega)
  generalize wx.drew = wy at *
  go_simp
  refine hKk.out _ _ ?_ (fun hHeld => ?_)
  · (try dsimp only)
    exact ⟨At2.set3 hHeld.1 (by omega) _ _ _, ((hHeld.2.set _ _).set _ _).set _ _⟩
  clear hKk Kk
  (try simp only [List.setIfInBounds_toArray, List.set_cons_zero, List.set_cons_succ])
  refine wpAnyH_done (by kernel_rfl) ?_ _
  go_wp2
  exact bodyPost_ret (v := .tuple #[.int .u64 n, .agg #[.bool (a == 1), .bool t, .bool (o == 1)]]) (by simp (maxDischargeDepth := 8) [results, Try.results61, go_sem, c0, c1, c2]) rfl ⟨rfl, bset3 (unhide HB) (show W.heap.size ≤ W.heap.size + 1 by omega) _ _ _⟩

end Go.Proofs.Ytepdmpcgkecjiaa
namespace Go.Proofs.Ytepdmpcgkecjiaa
open Go.RowKit
open Go.Proofs.Ytepdmpcgkecjiaa.W

set_option maxRecDepth 100000 in
set_option maxHeartbeats 8000000 in
theorem near_si {w f L Tp P k LA LB TF q : Int} {n : Bool} (a b : Option Addr) (na ca nb cb x y G : Nat) (w0 : World) (hx : IsNat w0 (.slice a na ca) x) (hy : IsNat w0 (.slice b nb cb) y)
    (HF : Hid (∀ W, Calls Try.prog 42 #[.int .i64 w] W fun r W' => r = .returned (.int .i64 f) ∧ Below W.heap.size W W')) (HL : Hid (∀ W, Calls Try.prog 79 #[.int .i64 w] W fun r W' => r = .returned (.int .i64 L) ∧ Below W.heap.size W W')) (HT : Hid (∀ W, Calls Try.prog 41 #[.int .i64 w] W fun r W' => r = .returned (.int .i64 Tp) ∧ Below W.heap.size W W')) (_ : Hid (∀ W, Calls Try.prog 43 #[.int .i64 f] W fun r W' => r = .returned (.int .u64 P) ∧ Below W.heap.size W W'))
    (hla : (Go.bitLen x : Int) = LA) (hlb : (Go.bitLen y : Int) = LB) 
    (r1 : LA ≤ 20000) (r2 : LB ≤ 20000) (r3 : -20000 ≤ k ∧ k ≤ 20000) (r4 : 0 ≤ f ∧ f ≤ 63) (r5 : -20000 ≤ L ∧ L ≤ 20000) (r6 : -20000 ≤ Tp ∧ Tp ≤ 20000)
    (htf : LA - LB + k - f = TF) (hq : (TF < L ∧ q = L) ∨ (TF = L ∧ q = L) ∨ (L < TF ∧ q = TF))
    (HU : L < TF → Hid (∀ W, IsNat W (.slice a na ca) x → IsNat W (.slice b nb cb) y → Calls Try.prog 80 #[.agg #[.slice a na ca], .agg #[.slice b nb cb], .int .i64 (k - q - f)] W fun r W' => r = .returned (.bool false) ∧ Below W.heap.size W W'))
    (HG : Hid (∀ W, IsNat W (.slice a na ca) x → IsNat W (.slice b nb cb) y → Calls Try.prog 81 #[.agg #[.slice a na ca], .agg #[.slice b nb cb], .int .i64 (k - q)] W fun r W' => ∃ s', r = .returned (.agg #[s']) ∧ IsNat W' s' G ∧ Below W.heap.size W W'))
    {LG VI : Int} (hlg' : (Go.bitLen G : Int) = LG) (d : ¬ f + 1 < LG) (z : decide (L + Tp - 2 < q) = true) (HI : Hid (∀ W, Calls Try.prog 66 #[.int .i64 w, .bool n] W fun r W' => r = .returned (.int .u64 VI) ∧ Below W.heap.size W W')) :
    Calls Try.prog 67 #[.int .i64 w, .bool n, .agg #[.slice a na ca], .agg #[.slice b nb cb], .int .i64 k] w0 fun r W' => r = .returned (.int .u64 VI) ∧ Below w0.heap.size w0 W' := by
  have k1 : IntKind.i64.wrap (LA - LB) = LA - LB := i64_id (by omega) (by omega)
  have k2 : IntKind.i64.wrap (LA - LB + k) = LA - LB + k := i64_id (by omega) (by omega)
  have k3 : IntKind.i64.wrap (LA - LB + k - f) = TF := by rw [← htf]; exact i64_id (by omega) (by omega)
  have rq1 : -200001 ≤ q ∧ q ≤ 200000 := by rcases hq with h | h | h <;> omega
  have k5 : IntKind.i64.wrap (k - q - f) = k - q - f := i64_id (by omega) (by omega)
  have k7 : IntKind.i64.wrap (k - q) = k - q := i64_id (by omega) (by omega)
  have k8 : IntKind.i64.wrap (f + 1) = f + 1 := i64_id (by omega) (by omega)
  have k9 : IntKind.i64.wrap (q + 1) = q + 1 := i64_id (by omega) (by omega)
  have k10 : IntKind.i64.wrap (L + Tp) = L + Tp := i64_id (by omega) (by omega)
  have k11 : IntKind.i64.wrap (L + Tp - 2) = L + Tp - 2 := i64_id (by omega) (by omega)
  have HLA := hide hla; have HLB := hide hlb
  clear hla hlb r1 r2 r3 r4 r5 r6 rq1 htf
  have HLG := hide hlg'
  clear hlg'
  
  have HX := hide hx; have HY := hide hy
  clear hx hy
  go_enter Try.func67, Try.ntmps67
  go_wp2_with fail
  have HK : Hid (TwoSt w0.heap.size w0 (.slice a na ca) (.slice b nb cb) x y ((w0.alloc (.cells #[.slice a na ca] 33)).alloc (.cells #[.slice b nb cb] 33))) :=
    { ca := by simp [go_sem], cb := by simp [go_sem], na := (unhide HX).below (below2 _ _ _), nb := (unhide HY).below (below2 _ _ _), bel := below2 _ _ _ }
  clear HX HY
  refine (unhide HF _).mono ?_
  rintro _ w1 ⟨rfl, hbl⟩
  have HK := hide ((unhide HK).below hbl)
  clear hbl
  
  go_wp2_with fail
  have HK := hide ((unhide HK).below ((Below.refl _ _).drew))
  refine wp_region_held_drew (S := fun w' => w'.cell? ⟨w0.heap.size, 0, none⟩ = some (.slice a na ca) ∧ w'.cell? ⟨w0.heap.size + 1, 0, none⟩ = some (.slice b nb cb)) (by kernel_rfl) ?_ (fun hHeld => ?_)
  · (try dsimp only)
    exact ⟨(unhide HK).ca, (unhide HK).cb⟩
  refine lst0 8 (by kernel_rfl) ?_
  refine tkH 0 18 1 ?v0r2 rfl (by kernel_rfl) (by kernel_rfl) (fun _ _ _ h => h) (by assumption) (Or.inl ⟨by rfl, ?y0r2⟩) ?_
  case y0r2 => ((intro w hSw; (try dsimp only at hSw); go_simp) <;> with_reducible rfl)
  (try simp only [Act.put, List.setIfInBounds_toArray, List.set_cons_zero, List.set_cons_succ])
  refine tkH 2 20 5 ?v2r2 rfl (by kernel_rfl) (by kernel_rfl) (fun _ _ _ h => h) (by assumption) (Or.inl ⟨by rfl, ?y2r2⟩) ?_
  case y2r2 => ((intro w hSw; (try dsimp only at hSw); go_simp) <;> with_reducible rfl)
  (try simp only [Act.put, List.setIfInBounds_toArray, List.set_cons_zero, List.set_cons_succ])
  refine tkH 5 23 37 ?v5r2 rfl (by kernel_rfl) (by kernel_rfl) (fun _ _ _ h => h) (by assumption) (Or.inl ⟨by rfl, ?y5r2⟩) ?_
  case y5r2 => ((intro w hSw; (try dsimp only at hSw); go_simp) <;> with_reducible rfl)
  (try simp only [Act.put, List.setIfInBounds_toArray, List.set_cons_zero, List.set_cons_succ])
  refine rdH 1 39 rfl (by kernel_rfl) (by kernel_rfl) (fun Kk hKk => ?_)
  go_simp
  refine (refLen_any _ _ _ _ _ (unhide HK).na).mono ?_
  rw [unhide HLA]
  rintro _ w2 ⟨rfl, hbl⟩
  have HK := hide ((unhide HK).below hbl)
  clear hbl
  (try go_wp2_with fail)
  refine hKk.out _ _ ?_ (fun hHeld => ?_)
  · (try dsimp only)
    exact ⟨(unhide HK).ca, (unhide HK).cb⟩
  clear hKk Kk
  (try simp only [List.setIfInBounds_toArray, List.set_cons_zero, List.set_cons_succ])
  refine rdH 3 47 rfl (by kernel_rfl) (by kernel_rfl) (fun Kk hKk => ?_)
  go_simp
  refine (refLen_any _ _ _ _ _ (unhide HK).nb).mono ?_
  rw [unhide HLB]
  rintro _ w3 ⟨rfl, hbl⟩
  have HK := hide ((unhide HK).below hbl)
  clear hbl
  (try go_wp2_with fail)
  refine hKk.out _ _ ?_ (fun hHeld => ?_)
  · (try dsimp only)
    exact ⟨(unhide HK).ca, (unhide HK).cb⟩
  clear hKk Kk
  (try simp only [List.setIfInBounds_toArray, List.set_cons_zero, List.set_cons_succ])
  refine tkH 4 22 63 ?v4r2 rfl (by kernel_rfl) (by kernel_rfl) (fun _ _ _ h => h) (by assumption) (Or.inl ⟨by rfl, ?y4r2⟩) ?_
  case y4r2 => ((intro w hSw; (try dsimp only at hSw); go_simp) <;> with_reducible rfl)
  (try simp only [Act.put, List.setIfInBounds_toArray, List.set_cons_zero, List.set_cons_succ])
  refine tkH 6 24 127 ?v6r2 rfl (by kernel_rfl) (by kernel_rfl) (fun _ _ _ h => h) (by assumption) (Or.inl ⟨by rfl, ?y6r2⟩) ?_
  case y6r2 => ((intro w hSw; (try dsimp only at hSw); go_simp) <;> with_reducible rfl)
  (try simp only [Act.put, List.setIfInBounds_toArray, List.set_cons_zero, List.set_cons_succ])
  refine tkH 7 12 255 ?v7r2 rfl (by kernel_rfl) (by kernel_rfl) (fun _ _ _ h => h) (by assumption) (Or.inl ⟨by rfl, ?y7r2⟩) ?_
  case y7r2 => ((intro w hSw; (try dsimp only at hSw); go_simp) <;> with_reducible rfl)
  (try simp only [Act.put, List.setIfInBounds_toArray, List.set_cons_zero, List.set_cons_succ])
  refine wpAnyH_done (by kernel_rfl) ?_ _
  clear hHeld
  go_wp2_with fail
  refine (unhide HL _).mono ?_
  rintro _ w4 ⟨rfl, hbl⟩
  have HK := hide ((unhide HK).below hbl)
  clear hbl
  rcases hq with ⟨xm, rfl⟩ | ⟨rfl, rfl⟩ | ⟨xm, rfl⟩
  · clear HU
    go_wp2_with fail
    refine (unhide HL _).mono ?_
    rintro _ w5 ⟨rfl, hbl⟩
    have HK := hide ((unhide HK).below hbl)
    clear hbl
    have ca' := (unhide HK).ca; have cb' := (unhide HK).cb
    go_wp2_with fail
    clear ca' cb'
    refine (unhide HG _ (unhide HK).na (unhide HK).nb).mono ?_
    rintro _ w7 ⟨s7, rfl, hN7, hbl⟩
    obtain ⟨a7, n7, c7, rfl⟩ := hN7.slice
    have HK := hide ((unhide HK).below hbl)
    clear hbl
    have HN : Hid ((w7.alloc (.cells #[.slice a7 n7 c7] 33)).cell? ⟨w7.heap.size, 0, none⟩ = some (.slice a7 n7 c7) ∧ (w7.alloc (.cells #[.slice a7 n7 c7] 33)).frozen? ⟨w7.heap.size, 0, none⟩ = false ∧ IsNat (w7.alloc (.cells #[.slice a7 n7 c7] 33)) (.slice a7 n7 c7) G) := ⟨by simp [go_sem], by simp [go_sem], hN7.below (below1 _ _)⟩
    have HB := hide (balloc (unhide HK).bel (.cells #[.slice a7 n7 c7] 33))
    have hz7 : w0.heap.size ≤ w7.heap.size := (unhide HK).bel.size
    clear hN7 HK
    go_wp2_with fail
    refine (refLen_any _ _ _ _ _ (unhide HN).2.2).mono ?_
    rw [unhide HLG]
    rintro _ w8 ⟨rfl, hbl⟩
    have HN := hide (And.intro (keep1 hbl (lt_of_cell (unhide HN).1) (unhide HN).1) (And.intro ((hbl.frozen (lt_of_cell (unhide HN).1)).trans (unhide HN).2.1) ((unhide HN).2.2.below hbl)))
    have HB := hide (bthen (unhide HB) hbl)
    clear hbl
    go_wp2_with fail
    refine (unhide HL _).mono ?_
    rintro _ w10 ⟨rfl, hbl⟩
    have HN := hide (And.intro (keep1 hbl (lt_of_cell (unhide HN).1) (unhide HN).1) (And.intro ((hbl.frozen (lt_of_cell (unhide HN).1)).trans (unhide HN).2.1) ((unhide HN).2.2.below hbl)))
    have HB := hide (bthen (unhide HB) hbl)
    clear hbl
    go_wp2_with fail
    refine (unhide HT _).mono ?_
    rintro _ w11 ⟨rfl, hbl⟩
    have HN := hide (And.intro (keep1 hbl (lt_of_cell (unhide HN).1) (unhide HN).1) (And.intro ((hbl.frozen (lt_of_cell (unhide HN).1)).trans (unhide HN).2.1) ((unhide HN).2.2.below hbl)))
    have HB := hide (bthen (unhide HB) hbl)
    clear hbl
    go_wp2_with fail
    refine (unhide HI _).mono ?_
    rintro _ w12 ⟨rfl, hbl⟩
    have HB := hide (bthen (unhide HB) hbl)
    go_wp2_with fail
    go_ret
    exact ⟨rfl, unhide HB⟩
                
  · clear HU
    go_wp2_with fail
    refine (unhide HL _).mono ?_
    rintro _ w5 ⟨rfl, hbl⟩
    have HK := hide ((unhide HK).below hbl)
    clear hbl
    have ca' := (unhide HK).ca; have cb' := (unhide HK).cb
    go_wp2_with fail
    clear ca' cb'
    refine (unhide HG _ (unhide HK).na (unhide HK).nb).mono ?_
    rintro _ w7 ⟨s7, rfl, hN7, hbl⟩
    obtain ⟨a7, n7, c7, rfl⟩ := hN7.slice
    have HK := hide ((unhide HK).below hbl)
    clear hbl
    have HN : Hid ((w7.alloc (.cells #[.slice a7 n7 c7] 33)).cell? ⟨w7.heap.size, 0, none⟩ = some (.slice a7 n7 c7) ∧ (w7.alloc (.cells #[.slice a7 n7 c7] 33)).frozen? ⟨w7.heap.size, 0, none⟩ = false ∧ IsNat (w7.alloc (.cells #[.slice a7 n7 c7] 33)) (.slice a7 n7 c7) G) := ⟨by simp [go_sem], by simp [go_sem], hN7.below (below1 _ _)⟩
    have HB := hide (balloc (unhide HK).bel (.cells #[.slice a7 n7 c7] 33))
    have hz7 : w0.heap.size ≤ w7.heap.size := (unhide HK).bel.size
    clear hN7 HK
    go_wp2_with fail
    refine (refLen_any _ _ _ _ _ (unhide HN).2.2).mono ?_
    rw [unhide HLG]
    rintro _ w8 ⟨rfl, hbl⟩
    have HN := hide (And.intro (keep1 hbl (lt_of_cell (unhide HN).1) (unhide HN).1) (And.intro ((hbl.frozen (lt_of_cell (unhide HN).1)).trans (unhide HN).2.1) ((unhide HN).2.2.below hbl)))
    have HB := hide (bthen (unhide HB) hbl)
    clear hbl
    go_wp2_with fail
    refine (unhide HL _).mono ?_
    rintro _ w10 ⟨rfl, hbl⟩
    have HN := hide (And.intro (keep1 hbl (lt_of_cell (unhide HN).1) (unhide HN).1) (And.intro ((hbl.frozen (lt_of_cell (unhide HN).1)).trans (unhide HN).2.1) ((unhide HN).2.2.below hbl)))
    have HB := hide (bthen (unhide HB) hbl)
    clear hbl
    go_wp2_with fail
    refine (unhide HT _).mono ?_
    rintro _ w11 ⟨rfl, hbl⟩
    have HN := hide (And.intro (keep1 hbl (lt_of_cell (unhide HN).1) (unhide HN).1) (And.intro ((hbl.frozen (lt_of_cell (unhide HN).1)).trans (unhide HN).2.1) ((unhide HN).2.2.below hbl)))
    have HB := hide (bthen (unhide HB) hbl)
    clear hbl
    go_wp2_with fail
    refine (unhide HI _).mono ?_
    rintro _ w12 ⟨rfl, hbl⟩
    have HB := hide (bthen (unhide HB) hbl)
    go_wp2_with fail
    go_ret
    exact ⟨rfl, unhide HB⟩
                
  · have HU := HU xm
    have xn : ¬ q < L := by omega
    have xd := dt xm
    go_wp2_with fail
    refine (unhide HL _).mono ?_
    rintro _ w5 ⟨rfl, hbl⟩
    have HK := hide ((unhide HK).below hbl)
    clear hbl
    have ca' := (unhide HK).ca; have cb' := (unhide HK).cb
    go_wp2_with fail
    clear ca' cb'
    refine (unhide HU _ (unhide HK).na (unhide HK).nb).mono ?_
    rintro _ w6 ⟨rfl, hbl⟩
    have HK := hide ((unhide HK).below hbl)
    clear hbl
    have ca' := (unhide HK).ca; have cb' := (unhide HK).cb
    go_wp2_with fail
    clear ca' cb'
    refine (unhide HG _ (unhide HK).na (unhide HK).nb).mono ?_
    rintro _ w7 ⟨s7, rfl, hN7, hbl⟩
    obtain ⟨a7, n7, c7, rfl⟩ := hN7.slice
    have HK := hide ((unhide HK).below hbl)
    clear hbl
    have HN : Hid ((w7.alloc (.cells #[.slice a7 n7 c7] 33)).cell? ⟨w7.heap.size, 0, none⟩ = some (.slice a7 n7 c7) ∧ (w7.alloc (.cells #[.slice a7 n7 c7] 33)).frozen? ⟨w7.heap.size, 0, none⟩ = false ∧ IsNat (w7.alloc (.cells #[.slice a7 n7 c7] 33)) (.slice a7 n7 c7) G) := ⟨by simp [go_sem], by simp [go_sem], hN7.below (below1 _ _)⟩
    have HB := hide (balloc (unhide HK).bel (.cells #[.slice a7 n7 c7] 33))
    have hz7 : w0.heap.size ≤ w7.heap.size := (unhide HK).bel.size
    clear hN7 HK
    go_wp2_with fail
    refine (refLen_any _ _ _ _ _ (unhide HN).2.2).mono ?_
    rw [unhide HLG]
    rintro _ w8 ⟨rfl, hbl⟩
    have HN := hide (And.intro (keep1 hbl (lt_of_cell (unhide HN).1) (unhide HN).1) (And.intro ((hbl.frozen (lt_of_cell (unhide HN).1)).trans (unhide HN).2.1) ((unhide HN).2.2.below hbl)))
    have HB := hide (bthen (unhide HB) hbl)
    clear hbl
    go_wp2_with fail
    refine (unhide HL _).mono ?_
    rintro _ w10 ⟨rfl, hbl⟩
    have HN := hide (And.intro (keep1 hbl (lt_of_cell (unhide HN).1) (unhide HN).1) (And.intro ((hbl.frozen (lt_of_cell (unhide HN).1)).trans (unhide HN).2.1) ((unhide HN).2.2.below hbl)))
    have HB := hide (bthen (unhide HB) hbl)
    clear hbl
    go_wp2_with fail
    refine (unhide HT _).mono ?_
    rintro _ w11 ⟨rfl, hbl⟩
    have HN := hide (And.intro (keep1 hbl (lt_of_cell (unhide HN).1) (unhide HN).1) (And.intro ((hbl.frozen (lt_of_cell (unhide HN).1)).trans (unhide HN).2.1) ((unhide HN).2.2.below hbl)))
    have HB := hide (bthen (unhide HB) hbl)
    clear hbl
    go_wp2_with fail
    refine (unhide HI _).mono ?_
    rintro _ w12 ⟨rfl, hbl⟩
    have HB := hide (bthen (unhide HB) hbl)
    go_wp2_with fail
    go_ret
    exact ⟨rfl, unhide HB⟩
                

set_option maxRecDepth 100000 in
set_option maxHeartbeats 8000000 in
theorem near_ss {w f L Tp P k LA LB TF q : Int} {n : Bool} (a b : Option Addr) (na ca nb cb x y G : Nat) (w0 : World) (hx : IsNat w0 (.slice a na ca) x) (hy : IsNat w0 (.slice b nb cb) y)
    (HF : Hid (∀ W, Calls Try.prog 42 #[.int .i64 w] W fun r W' => r = .returned (.int .i64 f) ∧ Below W.heap.size W W')) (HL : Hid (∀ W, Calls Try.prog 79 #[.int .i64 w] W fun r W' => r = .returned (.int .i64 L) ∧ Below W.heap.size W W')) (HT : Hid (∀ W, Calls Try.prog 41 #[.int .i64 w] W fun r W' => r = .returned (.int .i64 Tp) ∧ Below W.heap.size W W')) (H2 : Hid (∀ W, Calls Try.prog 43 #[.int .i64 f] W fun r W' => r = .returned (.int .u64 P) ∧ Below W.heap.size W W'))
    (hla : (Go.bitLen x : Int) = LA) (hlb : (Go.bitLen y : Int) = LB) 
    (r1 : LA ≤ 20000) (r2 : LB ≤ 20000) (r3 : -20000 ≤ k ∧ k ≤ 20000) (r4 : 0 ≤ f ∧ f ≤ 63) (r5 : -20000 ≤ L ∧ L ≤ 20000) (r6 : -20000 ≤ Tp ∧ Tp ≤ 20000)
    (htf : LA - LB + k - f = TF) (hq : (TF < L ∧ q = L) ∨ (TF = L ∧ q = L) ∨ (L < TF ∧ q = TF))
    (HU : L < TF → Hid (∀ W, IsNat W (.slice a na ca) x → IsNat W (.slice b nb cb) y → Calls Try.prog 80 #[.agg #[.slice a na ca], .agg #[.slice b nb cb], .int .i64 (k - q - f)] W fun r W' => r = .returned (.bool false) ∧ Below W.heap.size W W'))
    (HG : Hid (∀ W, IsNat W (.slice a na ca) x → IsNat W (.slice b nb cb) y → Calls Try.prog 81 #[.agg #[.slice a na ca], .agg #[.slice b nb cb], .int .i64 (k - q)] W fun r W' => ∃ s', r = .returned (.agg #[s']) ∧ IsNat W' s' G ∧ Below W.heap.size W W'))
    {LG S V : Int} (hlg' : (Go.bitLen G : Int) = LG) (d : ¬ f + 1 < LG) (z : decide (L + Tp - 2 < q) = false) (hs : lo G = S) (t : decide (S < P) = true) (HM : Hid (∀ W, Calls Try.prog 22 #[.int .i64 w, .bool n, .int .i64 0, .int .u64 S] W fun r W' => r = .returned (.int .u64 V) ∧ Below W.heap.size W W')) :
    Calls Try.prog 67 #[.int .i64 w, .bool n, .agg #[.slice a na ca], .agg #[.slice b nb cb], .int .i64 k] w0 fun r W' => r = .returned (.int .u64 V) ∧ Below w0.heap.size w0 W' := by
  have k1 : IntKind.i64.wrap (LA - LB) = LA - LB := i64_id (by omega) (by omega)
  have k2 : IntKind.i64.wrap (LA - LB + k) = LA - LB + k := i64_id (by omega) (by omega)
  have k3 : IntKind.i64.wrap (LA - LB + k - f) = TF := by rw [← htf]; exact i64_id (by omega) (by omega)
  have rq1 : -200001 ≤ q ∧ q ≤ 200000 := by rcases hq with h | h | h <;> omega
  have k5 : IntKind.i64.wrap (k - q - f) = k - q - f := i64_id (by omega) (by omega)
  have k7 : IntKind.i64.wrap (k - q) = k - q := i64_id (by omega) (by omega)
  have k8 : IntKind.i64.wrap (f + 1) = f + 1 := i64_id (by omega) (by omega)
  have k9 : IntKind.i64.wrap (q + 1) = q + 1 := i64_id (by omega) (by omega)
  have k10 : IntKind.i64.wrap (L + Tp) = L + Tp := i64_id (by omega) (by omega)
  have k11 : IntKind.i64.wrap (L + Tp - 2) = L + Tp - 2 := i64_id (by omega) (by omega)
  have HLA := hide hla; have HLB := hide hlb
  clear hla hlb r1 r2 r3 r4 r5 r6 rq1 htf
  have HLG := hide hlg'
  clear hlg'
  have HS := hide hs
  clear hs
  
  have HX := hide hx; have HY := hide hy
  clear hx hy
  go_enter Try.func67, Try.ntmps67
  go_wp2_with fail
  have HK : Hid (TwoSt w0.heap.size w0 (.slice a na ca) (.slice b nb cb) x y ((w0.alloc (.cells #[.slice a na ca] 33)).alloc (.cells #[.slice b nb cb] 33))) :=
    { ca := by simp [go_sem], cb := by simp [go_sem], na := (unhide HX).below (below2 _ _ _), nb := (unhide HY).below (below2 _ _ _), bel := below2 _ _ _ }
  clear HX HY
  refine (unhide HF _).mono ?_
  rintro _ w1 ⟨rfl, hbl⟩
  have HK := hide ((unhide HK).below hbl)
  clear hbl
  
  go_wp2_with fail
  have HK := hide ((unhide HK).below ((Below.refl _ _).drew))
  refine wp_region_held_drew (S := fun w' => w'.cell? ⟨w0.heap.size, 0, none⟩ = some (.slice a na ca) ∧ w'.cell? ⟨w0.heap.size + 1, 0, none⟩ = some (.slice b nb cb)) (by kernel_rfl) ?_ (fun hHeld => ?_)
  · (try dsimp only)
    exact ⟨(unhide HK).ca, (unhide HK).cb⟩
  refine lst0 8 (by kernel_rfl) ?_
  refine tkH 0 18 1 ?v0r2 rfl (by kernel_rfl) (by kernel_rfl) (fun _ _ _ h => h) (by assumption) (Or.inl ⟨by rfl, ?y0r2⟩) ?_
  case y0r2 => ((intro w hSw; (try dsimp only at hSw); go_simp) <;> with_reducible rfl)
  (try simp only [Act.put, List.setIfInBounds_toArray, List.set_cons_zero, List.set_cons_succ])
  refine tkH 2 20 5 ?v2r2 rfl (by kernel_rfl) (by kernel_rfl) (fun _ _ _ h => h) (by assumption) (Or.inl ⟨by rfl, ?y2r2⟩) ?_
  case y2r2 => ((intro w hSw; (try dsimp only at hSw); go_simp) <;> with_reducible rfl)
  (try simp only [Act.put, List.setIfInBounds_toArray, List.set_cons_zero, List.set_cons_succ])
  refine tkH 5 23 37 ?v5r2 rfl (by kernel_rfl) (by kernel_rfl) (fun _ _ _ h => h) (by assumption) (Or.inl ⟨by rfl, ?y5r2⟩) ?_
  case y5r2 => ((intro w hSw; (try dsimp only at hSw); go_simp) <;> with_reducible rfl)
  (try simp only [Act.put, List.setIfInBounds_toArray, List.set_cons_zero, List.set_cons_succ])
  refine rdH 1 39 rfl (by kernel_rfl) (by kernel_rfl) (fun Kk hKk => ?_)
  go_simp
  refine (refLen_any _ _ _ _ _ (unhide HK).na).mono ?_
  rw [unhide HLA]
  rintro _ w2 ⟨rfl, hbl⟩
  have HK := hide ((unhide HK).below hbl)
  clear hbl
  (try go_wp2_with fail)
  refine hKk.out _ _ ?_ (fun hHeld => ?_)
  · (try dsimp only)
    exact ⟨(unhide HK).ca, (unhide HK).cb⟩
  clear hKk Kk
  (try simp only [List.setIfInBounds_toArray, List.set_cons_zero, List.set_cons_succ])
  refine rdH 3 47 rfl (by kernel_rfl) (by kernel_rfl) (fun Kk hKk => ?_)
  go_simp
  refine (refLen_any _ _ _ _ _ (unhide HK).nb).mono ?_
  rw [unhide HLB]
  rintro _ w3 ⟨rfl, hbl⟩
  have HK := hide ((unhide HK).below hbl)
  clear hbl
  (try go_wp2_with fail)
  refine hKk.out _ _ ?_ (fun hHeld => ?_)
  · (try dsimp only)
    exact ⟨(unhide HK).ca, (unhide HK).cb⟩
  clear hKk Kk
  (try simp only [List.setIfInBounds_toArray, List.set_cons_zero, List.set_cons_succ])
  refine tkH 4 22 63 ?v4r2 rfl (by kernel_rfl) (by kernel_rfl) (fun _ _ _ h => h) (by assumption) (Or.inl ⟨by rfl, ?y4r2⟩) ?_
  case y4r2 => ((intro w hSw; (try dsimp only at hSw); go_simp) <;> with_reducible rfl)
  (try simp only [Act.put, List.setIfInBounds_toArray, List.set_cons_zero, List.set_cons_succ])
  refine tkH 6 24 127 ?v6r2 rfl (by kernel_rfl) (by kernel_rfl) (fun _ _ _ h => h) (by assumption) (Or.inl ⟨by rfl, ?y6r2⟩) ?_
  case y6r2 => ((intro w hSw; (try dsimp only at hSw); go_simp) <;> with_reducible rfl)
  (try simp only [Act.put, List.setIfInBounds_toArray, List.set_cons_zero, List.set_cons_succ])
  refine tkH 7 12 255 ?v7r2 rfl (by kernel_rfl) (by kernel_rfl) (fun _ _ _ h => h) (by assumption) (Or.inl ⟨by rfl, ?y7r2⟩) ?_
  case y7r2 => ((intro w hSw; (try dsimp only at hSw); go_simp) <;> with_reducible rfl)
  (try simp only [Act.put, List.setIfInBounds_toArray, List.set_cons_zero, List.set_cons_succ])
  refine wpAnyH_done (by kernel_rfl) ?_ _
  clear hHeld
  go_wp2_with fail
  refine (unhide HL _).mono ?_
  rintro _ w4 ⟨rfl, hbl⟩
  have HK := hide ((unhide HK).below hbl)
  clear hbl
  rcases hq with ⟨xm, rfl⟩ | ⟨rfl, rfl⟩ | ⟨xm, rfl⟩
  · clear HU
    go_wp2_with fail
    refine (unhide HL _).mono ?_
    rintro _ w5 ⟨rfl, hbl⟩
    have HK := hide ((unhide HK).below hbl)
    clear hbl
    have ca' := (unhide HK).ca; have cb' := (unhide HK).cb
    go_wp2_with fail
    clear ca' cb'
    refine (unhide HG _ (unhide HK).na (unhide HK).nb).mono ?_
    rintro _ w7 ⟨s7, rfl, hN7, hbl⟩
    obtain ⟨a7, n7, c7, rfl⟩ := hN7.slice
    have HK := hide ((unhide HK).below hbl)
    clear hbl
    have HN : Hid ((w7.alloc (.cells #[.slice a7 n7 c7] 33)).cell? ⟨w7.heap.size, 0, none⟩ = some (.slice a7 n7 c7) ∧ (w7.alloc (.cells #[.slice a7 n7 c7] 33)).frozen? ⟨w7.heap.size, 0, none⟩ = false ∧ IsNat (w7.alloc (.cells #[.slice a7 n7 c7] 33)) (.slice a7 n7 c7) G) := ⟨by simp [go_sem], by simp [go_sem], hN7.below (below1 _ _)⟩
    have HB := hide (balloc (unhide HK).bel (.cells #[.slice a7 n7 c7] 33))
    have hz7 : w0.heap.size ≤ w7.heap.size := (unhide HK).bel.size
    clear hN7 HK
    go_wp2_with fail
    refine (refLen_any _ _ _ _ _ (unhide HN).2.2).mono ?_
    rw [unhide HLG]
    rintro _ w8 ⟨rfl, hbl⟩
    have HN := hide (And.intro (keep1 hbl (lt_of_cell (unhide HN).1) (unhide HN).1) (And.intro ((hbl.frozen (lt_of_cell (unhide HN).1)).trans (unhide HN).2.1) ((unhide HN).2.2.below hbl)))
    have HB := hide (bthen (unhide HB) hbl)
    clear hbl
    go_wp2_with fail
    refine (unhide HL _).mono ?_
    rintro _ w10 ⟨rfl, hbl⟩
    have HN := hide (And.intro (keep1 hbl (lt_of_cell (unhide HN).1) (unhide HN).1) (And.intro ((hbl.frozen (lt_of_cell (unhide HN).1)).trans (unhide HN).2.1) ((unhide HN).2.2.below hbl)))
    have HB := hide (bthen (unhide HB) hbl)
    clear hbl
    go_wp2_with fail
    refine (unhide HT _).mono ?_
    rintro _ w11 ⟨rfl, hbl⟩
    have HN := hide (And.intro (keep1 hbl (lt_of_cell (unhide HN).1) (unhide HN).1) (And.intro ((hbl.frozen (lt_of_cell (unhide HN).1)).trans (unhide HN).2.1) ((unhide HN).2.2.below hbl)))
    have HB := hide (bthen (unhide HB) hbl)
    clear hbl
    have cn := (unhide HN).1
    go_wp2_with fail
    clear cn
    refine (uint_any _ _ _ _ _ (unhide HN).2.2).mono ?_
    rw [unhide HS]
    rintro _ w12 ⟨rfl, hbl⟩
    have HB := hide (bthen (unhide HB) hbl)
    clear hbl HN
    go_wp2_with fail
    refine (unhide H2 _).mono ?_
    rintro _ w13 ⟨rfl, hbl⟩
    have HB := hide (bthen (unhide HB) hbl)
    clear hbl
    go_wp2_with fail
    refine (unhide HM _).mono ?_
    rintro _ w14 ⟨rfl, hbl⟩
    have HB := hide (bthen (unhide HB) hbl)
    go_wp2_with fail
    go_ret
    exact ⟨rfl, unhide HB⟩
                
  · clear HU
    go_wp2_with fail
    refine (unhide HL _).mono ?_
    rintro _ w5 ⟨rfl, hbl⟩
    have HK := hide ((unhide HK).below hbl)
    clear hbl
    have ca' := (unhide HK).ca; have cb' := (unhide HK).cb
    go_wp2_with fail
    clear ca' cb'
    refine (unhide HG _ (unhide HK).na (unhide HK).nb).mono ?_
    rintro _ w7 ⟨s7, rfl, hN7, hbl⟩
    obtain ⟨a7, n7, c7, rfl⟩ := hN7.slice
    have HK := hide ((unhide HK).below hbl)
    clear hbl
    have HN : Hid ((w7.alloc (.cells #[.slice a7 n7 c7] 33)).cell? ⟨w7.heap.size, 0, none⟩ = some (.slice a7 n7 c7) ∧ (w7.alloc (.cells #[.slice a7 n7 c7] 33)).frozen? ⟨w7.heap.size, 0, none⟩ = false ∧ IsNat (w7.alloc (.cells #[.slice a7 n7 c7] 33)) (.slice a7 n7 c7) G) := ⟨by simp [go_sem], by simp [go_sem], hN7.below (below1 _ _)⟩
    have HB := hide (balloc (unhide HK).bel (.cells #[.slice a7 n7 c7] 33))
    have hz7 : w0.heap.size ≤ w7.heap.size := (unhide HK).bel.size
    clear hN7 HK
    go_wp2_with fail
    refine (refLen_any _ _ _ _ _ (unhide HN).2.2).mono ?_
    rw [unhide HLG]
    rintro _ w8 ⟨rfl, hbl⟩
    have HN := hide (And.intro (keep1 hbl (lt_of_cell (unhide HN).1) (unhide HN).1) (And.intro ((hbl.frozen (lt_of_cell (unhide HN).1)).trans (unhide HN).2.1) ((unhide HN).2.2.below hbl)))
    have HB := hide (bthen (unhide HB) hbl)
    clear hbl
    go_wp2_with fail
    refine (unhide HL _).mono ?_
    rintro _ w10 ⟨rfl, hbl⟩
    have HN := hide (And.intro (keep1 hbl (lt_of_cell (unhide HN).1) (unhide HN).1) (And.intro ((hbl.frozen (lt_of_cell (unhide HN).1)).trans (unhide HN).2.1) ((unhide HN).2.2.below hbl)))
    have HB := hide (bthen (unhide HB) hbl)
    clear hbl
    go_wp2_with fail
    refine (unhide HT _).mono ?_
    rintro _ w11 ⟨rfl, hbl⟩
    have HN := hide (And.intro (keep1 hbl (lt_of_cell (unhide HN).1) (unhide HN).1) (And.intro ((hbl.frozen (lt_of_cell (unhide HN).1)).trans (unhide HN).2.1) ((unhide HN).2.2.below hbl)))
    have HB := hide (bthen (unhide HB) hbl)
    clear hbl
    have cn := (unhide HN).1
    go_wp2_with fail
    clear cn
    refine (uint_any _ _ _ _ _ (unhide HN).2.2).mono ?_
    rw [unhide HS]
    rintro _ w12 ⟨rfl, hbl⟩
    have HB := hide (bthen (unhide HB) hbl)
    clear hbl HN
    go_wp2_with fail
    refine (unhide H2 _).mono ?_
    rintro _ w13 ⟨rfl, hbl⟩
    have HB := hide (bthen (unhide HB) hbl)
    clear hbl
    go_wp2_with fail
    refine (unhide HM _).mono ?_
    rintro _ w14 ⟨rfl, hbl⟩
    have HB := hide (bthen (unhide HB) hbl)
    go_wp2_with fail
    go_ret
    exact ⟨rfl, unhide HB⟩
                
  · have HU := HU xm
    have xn : ¬ q < L := by omega
    have xd := dt xm
    go_wp2_with fail
    refine (unhide HL _).mono ?_
    rintro _ w5 ⟨rfl, hbl⟩
    have HK := hide ((unhide HK).below hbl)
    clear hbl
    have ca' := (unhide HK).ca; have cb' := (unhide HK).cb
    go_wp2_with fail
    clear ca' cb'
    refine (unhide HU _ (unhide HK).na (unhide HK).nb).mono ?_
    rintro _ w6 ⟨rfl, hbl⟩
    have HK := hide ((unhide HK).below hbl)
    clear hbl
    have ca' := (unhide HK).ca; have cb' := (unhide HK).cb
    go_wp2_with fail
    clear ca' cb'
    refine (unhide HG _ (unhide HK).na (unhide HK).nb).mono ?_
    rintro _ w7 ⟨s7, rfl, hN7, hbl⟩
    obtain ⟨a7, n7, c7, rfl⟩ := hN7.slice
    have HK := hide ((unhide HK).below hbl)
    clear hbl
    have HN : Hid ((w7.alloc (.cells #[.slice a7 n7 c7] 33)).cell? ⟨w7.heap.size, 0, none⟩ = some (.slice a7 n7 c7) ∧ (w7.alloc (.cells #[.slice a7 n7 c7] 33)).frozen? ⟨w7.heap.size, 0, none⟩ = false ∧ IsNat (w7.alloc (.cells #[.slice a7 n7 c7] 33)) (.slice a7 n7 c7) G) := ⟨by simp [go_sem], by simp [go_sem], hN7.below (below1 _ _)⟩
    have HB := hide (balloc (unhide HK).bel (.cells #[.slice a7 n7 c7] 33))
    have hz7 : w0.heap.size ≤ w7.heap.size := (unhide HK).bel.size
    clear hN7 HK
    go_wp2_with fail
    refine (refLen_any _ _ _ _ _ (unhide HN).2.2).mono ?_
    rw [unhide HLG]
    rintro _ w8 ⟨rfl, hbl⟩
    have HN := hide (And.intro (keep1 hbl (lt_of_cell (unhide HN).1) (unhide HN).1) (And.intro ((hbl.frozen (lt_of_cell (unhide HN).1)).trans (unhide HN).2.1) ((unhide HN).2.2.below hbl)))
    have HB := hide (bthen (unhide HB) hbl)
    clear hbl
    go_wp2_with fail
    refine (unhide HL _).mono ?_
    rintro _ w10 ⟨rfl, hbl⟩
    have HN := hide (And.intro (keep1 hbl (lt_of_cell (unhide HN).1) (unhide HN).1) (And.intro ((hbl.frozen (lt_of_cell (unhide HN).1)).trans (unhide HN).2.1) ((unhide HN).2.2.below hbl)))
    have HB := hide (bthen (unhide HB) hbl)
    clear hbl
    go_wp2_with fail
    refine (unhide HT _).mono ?_
    rintro _ w11 ⟨rfl, hbl⟩
    have HN := hide (And.intro (keep1 hbl (lt_of_cell (unhide HN).1) (unhide HN).1) (And.intro ((hbl.frozen (lt_of_cell (unhide HN).1)).trans (unhide HN).2.1) ((unhide HN).2.2.below hbl)))
    have HB := hide (bthen (unhide HB) hbl)
    clear hbl
    have cn := (unhide HN).1
    go_wp2_with fail
    clear cn
    refine (uint_any _ _ _ _ _ (unhide HN).2.2).mono ?_
    rw [unhide HS]
    rintro _ w12 ⟨rfl, hbl⟩
    have HB := hide (bthen (unhide HB) hbl)
    clear hbl HN
    go_wp2_with fail
    refine (unhide H2 _).mono ?_
    rintro _ w13 ⟨rfl, hbl⟩
    have HB := hide (bthen (unhide HB) hbl)
    clear hbl
    go_wp2_with fail
    refine (unhide HM _).mono ?_
    rintro _ w14 ⟨rfl, hbl⟩
    have HB := hide (bthen (unhide HB) hbl)
    go_wp2_with fail
    go_ret
    exact ⟨rfl, unhide HB⟩
                

end Go.Proofs.Ytepdmpcgkecjiaa
namespace Go.Proofs.Ytepdmpcgkecjiaa
open Go.RowKit
open Go.Proofs.Ytepdmpcgkecjiaa.W

theorem half_one (a : Option Addr) (n c x : Nat) (w : World) (hx : IsNat w (.slice a n c) x) (bx : x < pw 300) :
    Calls Try.prog 82 #[.agg #[.slice a n c], .int .i64 1] w fun e w' => ∃ s1, e = .returned (.tuple #[.agg #[s1], .bool (decide (x % 2 ^ 1 ≠ 0))]) ∧ IsNat w' s1 (x / 2 ^ 1) ∧ Below w.heap.size w w' := half_any a n c x 1 w hx bx (by omega)

set_option maxRecDepth 100000 in
set_option maxHeartbeats 8000000 in
theorem near_bi {w f L Tp P k LA LB TF q : Int} {n : Bool} (a b : Option Addr) (na ca nb cb x y G : Nat) (w0 : World) (hx : IsNat w0 (.slice a na ca) x) (hy : IsNat w0 (.slice b nb cb) y)
    (HF : Hid (∀ W, Calls Try.prog 42 #[.int .i64 w] W fun r W' => r = .returned (.int .i64 f) ∧ Below W.heap.size W W')) (HL : Hid (∀ W, Calls Try.prog 79 #[.int .i64 w] W fun r W' => r = .returned (.int .i64 L) ∧ Below W.heap.size W W')) (HT : Hid (∀ W, Calls Try.prog 41 #[.int .i64 w] W fun r W' => r = .returned (.int .i64 Tp) ∧ Below W.heap.size W W')) (_ : Hid (∀ W, Calls Try.prog 43 #[.int .i64 f] W fun r W' => r = .returned (.int .u64 P) ∧ Below W.heap.size W W'))
    (hla : (Go.bitLen x : Int) = LA) (hlb : (Go.bitLen y : Int) = LB) 
    (r1 : LA ≤ 20000) (r2 : LB ≤ 20000) (r3 : -20000 ≤ k ∧ k ≤ 20000) (r4 : 0 ≤ f ∧ f ≤ 63) (r5 : -20000 ≤ L ∧ L ≤ 20000) (r6 : -20000 ≤ Tp ∧ Tp ≤ 20000)
    (htf : LA - LB + k - f = TF) (hq : (TF < L ∧ q = L) ∨ (TF = L ∧ q = L) ∨ (L < TF ∧ q = TF))
    (HU : L < TF → Hid (∀ W, IsNat W (.slice a na ca) x → IsNat W (.slice b nb cb) y → Calls Try.prog 80 #[.agg #[.slice a na ca], .agg #[.slice b nb cb], .int .i64 (k - q - f)] W fun r W' => r = .returned (.bool false) ∧ Below W.heap.size W W'))
    (HG : Hid (∀ W, IsNat W (.slice a na ca) x → IsNat W (.slice b nb cb) y → Calls Try.prog 81 #[.agg #[.slice a na ca], .agg #[.slice b nb cb], .int .i64 (k - q)] W fun r W' => ∃ s', r = .returned (.agg #[s']) ∧ IsNat W' s' G ∧ Below W.heap.size W W'))
    {LG VI : Int} (hlg' : (Go.bitLen G : Int) = LG) (d : f + 1 < LG) (hG3 : G < pw 300) (z : decide (L + Tp - 2 < (q + 1)) = true) (HI : Hid (∀ W, Calls Try.prog 66 #[.int .i64 w, .bool n] W fun r W' => r = .returned (.int .u64 VI) ∧ Below W.heap.size W W')) :
    Calls Try.prog 67 #[.int .i64 w, .bool n, .agg #[.slice a na ca], .agg #[.slice b nb cb], .int .i64 k] w0 fun r W' => r = .returned (.int .u64 VI) ∧ Below w0.heap.size w0 W' := by
  have k1 : IntKind.i64.wrap (LA - LB) = LA - LB := i64_id (by omega) (by omega)
  have k2 : IntKind.i64.wrap (LA - LB + k) = LA - LB + k := i64_id (by omega) (by omega)
  have k3 : IntKind.i64.wrap (LA - LB + k - f) = TF := by rw [← htf]; exact i64_id (by omega) (by omega)
  have rq1 : -200001 ≤ q ∧ q ≤ 200000 := by rcases hq with h | h | h <;> omega
  have k5 : IntKind.i64.wrap (k - q - f) = k - q - f := i64_id (by omega) (by omega)
  have k7 : IntKind.i64.wrap (k - q) = k - q := i64_id (by omega) (by omega)
  have k8 : IntKind.i64.wrap (f + 1) = f + 1 := i64_id (by omega) (by omega)
  have k9 : IntKind.i64.wrap (q + 1) = q + 1 := i64_id (by omega) (by omega)
  have k10 : IntKind.i64.wrap (L + Tp) = L + Tp := i64_id (by omega) (by omega)
  have k11 : IntKind.i64.wrap (L + Tp - 2) = L + Tp - 2 := i64_id (by omega) (by omega)
  have HLA := hide hla; have HLB := hide hlb
  clear hla hlb r1 r2 r3 r4 r5 r6 rq1 htf
  have HLG := hide hlg'
  clear hlg'
  have HG3 := hide hG3
  clear hG3
  
  have HX := hide hx; have HY := hide hy
  clear hx hy
  go_enter Try.func67, Try.ntmps67
  go_wp2_with fail
  have HK : Hid (TwoSt w0.heap.size w0 (.slice a na ca) (.slice b nb cb) x y ((w0.alloc (.cells #[.slice a na ca] 33)).alloc (.cells #[.slice b nb cb] 33))) :=
    { ca := by simp [go_sem], cb := by simp [go_sem], na := (unhide HX).below (below2 _ _ _), nb := (unhide HY).below (below2 _ _ _), bel := below2 _ _ _ }
  clear HX HY
  refine (unhide HF _).mono ?_
  rintro _ w1 ⟨rfl, hbl⟩
  have HK := hide ((unhide HK).below hbl)
  clear hbl
  
  go_wp2_with fail
  have HK := hide ((unhide HK).below ((Below.refl _ _).drew))
  refine wp_region_held_drew (S := fun w' => w'.cell? ⟨w0.heap.size, 0, none⟩ = some (.slice a na ca) ∧ w'.cell? ⟨w0.heap.size + 1, 0, none⟩ = some (.slice b nb cb)) (by kernel_rfl) ?_ (fun hHeld => ?_)
  · (try dsimp only)
    exact ⟨(unhide HK).ca, (unhide HK).cb⟩
  refine lst0 8 (by kernel_rfl) ?_
  refine tkH 0 18 1 ?v0r2 rfl (by kernel_rfl) (by kernel_rfl) (fun _ _ _ h => h) (by assumption) (Or.inl ⟨by rfl, ?y0r2⟩) ?_
  case y0r2 => ((intro w hSw; (try dsimp only at hSw); go_simp) <;> with_reducible rfl)
  (try simp only [Act.put, List.setIfInBounds_toArray, List.set_cons_zero, List.set_cons_succ])
  refine tkH 2 20 5 ?v2r2 rfl (by kernel_rfl) (by kernel_rfl) (fun _ _ _ h => h) (by assumption) (Or.inl ⟨by rfl, ?y2r2⟩) ?_
  case y2r2 => ((intro w hSw; (try dsimp only at hSw); go_simp) <;> with_reducible rfl)
  (try simp only [Act.put, List.setIfInBounds_toArray, List.set_cons_zero, List.set_cons_succ])
  refine tkH 5 23 37 ?v5r2 rfl (by kernel_rfl) (by kernel_rfl) (fun _ _ _ h => h) (by assumption) (Or.inl ⟨by rfl, ?y5r2⟩) ?_
  case y5r2 => ((intro w hSw; (try dsimp only at hSw); go_simp) <;> with_reducible rfl)
  (try simp only [Act.put, List.setIfInBounds_toArray, List.set_cons_zero, List.set_cons_succ])
  refine rdH 1 39 rfl (by kernel_rfl) (by kernel_rfl) (fun Kk hKk => ?_)
  go_simp
  refine (refLen_any _ _ _ _ _ (unhide HK).na).mono ?_
  rw [unhide HLA]
  rintro _ w2 ⟨rfl, hbl⟩
  have HK := hide ((unhide HK).below hbl)
  clear hbl
  (try go_wp2_with fail)
  refine hKk.out _ _ ?_ (fun hHeld => ?_)
  · (try dsimp only)
    exact ⟨(unhide HK).ca, (unhide HK).cb⟩
  clear hKk Kk
  (try simp only [List.setIfInBounds_toArray, List.set_cons_zero, List.set_cons_succ])
  refine rdH 3 47 rfl (by kernel_rfl) (by kernel_rfl) (fun Kk hKk => ?_)
  go_simp
  refine (refLen_any _ _ _ _ _ (unhide HK).nb).mono ?_
  rw [unhide HLB]
  rintro _ w3 ⟨rfl, hbl⟩
  have HK := hide ((unhide HK).below hbl)
  clear hbl
  (try go_wp2_with fail)
  refine hKk.out _ _ ?_ (fun hHeld => ?_)
  · (try dsimp only)
    exact ⟨(unhide HK).ca, (unhide HK).cb⟩
  clear hKk Kk
  (try simp only [List.setIfInBounds_toArray, List.set_cons_zero, List.set_cons_succ])
  refine tkH 4 22 63 ?v4r2 rfl (by kernel_rfl) (by kernel_rfl) (fun _ _ _ h => h) (by assumption) (Or.inl ⟨by rfl, ?y4r2⟩) ?_
  case y4r2 => ((intro w hSw; (try dsimp only at hSw); go_simp) <;> with_reducible rfl)
  (try simp only [Act.put, List.setIfInBounds_toArray, List.set_cons_zero, List.set_cons_succ])
  refine tkH 6 24 127 ?v6r2 rfl (by kernel_rfl) (by kernel_rfl) (fun _ _ _ h => h) (by assumption) (Or.inl ⟨by rfl, ?y6r2⟩) ?_
  case y6r2 => ((intro w hSw; (try dsimp only at hSw); go_simp) <;> with_reducible rfl)
  (try simp only [Act.put, List.setIfInBounds_toArray, List.set_cons_zero, List.set_cons_succ])
  refine tkH 7 12 255 ?v7r2 rfl (by kernel_rfl) (by kernel_rfl) (fun _ _ _ h => h) (by assumption) (Or.inl ⟨by rfl, ?y7r2⟩) ?_
  case y7r2 => ((intro w hSw; (try dsimp only at hSw); go_simp) <;> with_reducible rfl)
  (try simp only [Act.put, List.setIfInBounds_toArray, List.set_cons_zero, List.set_cons_succ])
  refine wpAnyH_done (by kernel_rfl) ?_ _
  clear hHeld
  go_wp2_with fail
  refine (unhide HL _).mono ?_
  rintro _ w4 ⟨rfl, hbl⟩
  have HK := hide ((unhide HK).below hbl)
  clear hbl
  rcases hq with ⟨xm, rfl⟩ | ⟨rfl, rfl⟩ | ⟨xm, rfl⟩
  · clear HU
    go_wp2_with fail
    refine (unhide HL _).mono ?_
    rintro _ w5 ⟨rfl, hbl⟩
    have HK := hide ((unhide HK).below hbl)
    clear hbl
    have ca' := (unhide HK).ca; have cb' := (unhide HK).cb
    go_wp2_with fail
    clear ca' cb'
    refine (unhide HG _ (unhide HK).na (unhide HK).nb).mono ?_
    rintro _ w7 ⟨s7, rfl, hN7, hbl⟩
    obtain ⟨a7, n7, c7, rfl⟩ := hN7.slice
    have HK := hide ((unhide HK).below hbl)
    clear hbl
    have HN : Hid ((w7.alloc (.cells #[.slice a7 n7 c7] 33)).cell? ⟨w7.heap.size, 0, none⟩ = some (.slice a7 n7 c7) ∧ (w7.alloc (.cells #[.slice a7 n7 c7] 33)).frozen? ⟨w7.heap.size, 0, none⟩ = false ∧ IsNat (w7.alloc (.cells #[.slice a7 n7 c7] 33)) (.slice a7 n7 c7) G) := ⟨by simp [go_sem], by simp [go_sem], hN7.below (below1 _ _)⟩
    have HB := hide (balloc (unhide HK).bel (.cells #[.slice a7 n7 c7] 33))
    have hz7 : w0.heap.size ≤ w7.heap.size := (unhide HK).bel.size
    clear hN7 HK
    go_wp2_with fail
    refine (refLen_any _ _ _ _ _ (unhide HN).2.2).mono ?_
    rw [unhide HLG]
    rintro _ w8 ⟨rfl, hbl⟩
    have HN := hide (And.intro (keep1 hbl (lt_of_cell (unhide HN).1) (unhide HN).1) (And.intro ((hbl.frozen (lt_of_cell (unhide HN).1)).trans (unhide HN).2.1) ((unhide HN).2.2.below hbl)))
    have HB := hide (bthen (unhide HB) hbl)
    clear hbl
    have cn := (unhide HN).1
    go_wp2_with fail
    clear cn
    refine (half_one _ _ _ _ _ (unhide HN).2.2 (unhide HG3)).mono ?_
    rintro _ w9 ⟨s9, rfl, hN9, hbl⟩
    obtain ⟨a9, n9, c9, rfl⟩ := hN9.slice
    have HN := hide (And.intro (keep1 hbl (lt_of_cell (unhide HN).1) (unhide HN).1) (And.intro ((hbl.frozen (lt_of_cell (unhide HN).1)).trans (unhide HN).2.1) ((unhide HN).2.2.below hbl)))
    have HB := hide (bthen (unhide HB) hbl)
    clear hbl
    have cn := (unhide HN).1
    have fn := (unhide HN).2.1
    go_wp2_with fail
    have HN : Hid ((w9.setCell ⟨w7.heap.size, 0, none⟩ (.slice a9 n9 c9)).cell? ⟨w7.heap.size, 0, none⟩ = some (.slice a9 n9 c9) ∧ (w9.setCell ⟨w7.heap.size, 0, none⟩ (.slice a9 n9 c9)).frozen? ⟨w7.heap.size, 0, none⟩ = false ∧ IsNat (w9.setCell ⟨w7.heap.size, 0, none⟩ (.slice a9 n9 c9)) (.slice a9 n9 c9) (G / 2 ^ 1)) := ⟨World.cell?_setCell_same _ _ _ cn, by rw [frozen_set]; exact fn, hN9.store cn _⟩
    have HB := hide (bset (unhide HB) w7.heap.size hz7 0 (.slice a9 n9 c9))
    clear cn fn hN9
    generalize w9.setCell ⟨w7.heap.size, 0, none⟩ (.slice a9 n9 c9) = w9s at *
    go_wp2_with fail
    refine (unhide HL _).mono ?_
    rintro _ w10 ⟨rfl, hbl⟩
    have HN := hide (And.intro (keep1 hbl (lt_of_cell (unhide HN).1) (unhide HN).1) (And.intro ((hbl.frozen (lt_of_cell (unhide HN).1)).trans (unhide HN).2.1) ((unhide HN).2.2.below hbl)))
    have HB := hide (bthen (unhide HB) hbl)
    clear hbl
    go_wp2_with fail
    refine (unhide HT _).mono ?_
    rintro _ w11 ⟨rfl, hbl⟩
    have HN := hide (And.intro (keep1 hbl (lt_of_cell (unhide HN).1) (unhide HN).1) (And.intro ((hbl.frozen (lt_of_cell (unhide HN).1)).trans (unhide HN).2.1) ((unhide HN).2.2.below hbl)))
    have HB := hide (bthen (unhide HB) hbl)
    clear hbl
    go_wp2_with fail
    refine (unhide HI _).mono ?_
    rintro _ w12 ⟨rfl, hbl⟩
    have HB := hide (bthen (unhide HB) hbl)
    go_wp2_with fail
    go_ret
    exact ⟨rfl, unhide HB⟩
                
  · clear HU
    go_wp2_with fail
    refine (unhide HL _).mono ?_
    rintro _ w5 ⟨rfl, hbl⟩
    have HK := hide ((unhide HK).below hbl)
    clear hbl
    have ca' := (unhide HK).ca; have cb' := (unhide HK).cb
    go_wp2_with fail
    clear ca' cb'
    refine (unhide HG _ (unhide HK).na (unhide HK).nb).mono ?_
    rintro _ w7 ⟨s7, rfl, hN7, hbl⟩
    obtain ⟨a7, n7, c7, rfl⟩ := hN7.slice
    have HK := hide ((unhide HK).below hbl)
    clear hbl
    have HN : Hid ((w7.alloc (.cells #[.slice a7 n7 c7] 33)).cell? ⟨w7.heap.size, 0, none⟩ = some (.slice a7 n7 c7) ∧ (w7.alloc (.cells #[.slice a7 n7 c7] 33)).frozen? ⟨w7.heap.size, 0, none⟩ = false ∧ IsNat (w7.alloc (.cells #[.slice a7 n7 c7] 33)) (.slice a7 n7 c7) G) := ⟨by simp [go_sem], by simp [go_sem], hN7.below (below1 _ _)⟩
    have HB := hide (balloc (unhide HK).bel (.cells #[.slice a7 n7 c7] 33))
    have hz7 : w0.heap.size ≤ w7.heap.size := (unhide HK).bel.size
    clear hN7 HK
    go_wp2_with fail
    refine (refLen_any _ _ _ _ _ (unhide HN).2.2).mono ?_
    rw [unhide HLG]
    rintro _ w8 ⟨rfl, hbl⟩
    have HN := hide (And.intro (keep1 hbl (lt_of_cell (unhide HN).1) (unhide HN).1) (And.intro ((hbl.frozen (lt_of_cell (unhide HN).1)).trans (unhide HN).2.1) ((unhide HN).2.2.below hbl)))
    have HB := hide (bthen (unhide HB) hbl)
    clear hbl
    have cn := (unhide HN).1
    go_wp2_with fail
    clear cn
    refine (half_one _ _ _ _ _ (unhide HN).2.2 (unhide HG3)).mono ?_
    rintro _ w9 ⟨s9, rfl, hN9, hbl⟩
    obtain ⟨a9, n9, c9, rfl⟩ := hN9.slice
    have HN := hide (And.intro (keep1 hbl (lt_of_cell (unhide HN).1) (unhide HN).1) (And.intro ((hbl.frozen (lt_of_cell (unhide HN).1)).trans (unhide HN).2.1) ((unhide HN).2.2.below hbl)))
    have HB := hide (bthen (unhide HB) hbl)
    clear hbl
    have cn := (unhide HN).1
    have fn := (unhide HN).2.1
    go_wp2_with fail
    have HN : Hid ((w9.setCell ⟨w7.heap.size, 0, none⟩ (.slice a9 n9 c9)).cell? ⟨w7.heap.size, 0, none⟩ = some (.slice a9 n9 c9) ∧ (w9.setCell ⟨w7.heap.size, 0, none⟩ (.slice a9 n9 c9)).frozen? ⟨w7.heap.size, 0, none⟩ = false ∧ IsNat (w9.setCell ⟨w7.heap.size, 0, none⟩ (.slice a9 n9 c9)) (.slice a9 n9 c9) (G / 2 ^ 1)) := ⟨World.cell?_setCell_same _ _ _ cn, by rw [frozen_set]; exact fn, hN9.store cn _⟩
    have HB := hide (bset (unhide HB) w7.heap.size hz7 0 (.slice a9 n9 c9))
    clear cn fn hN9
    generalize w9.setCell ⟨w7.heap.size, 0, none⟩ (.slice a9 n9 c9) = w9s at *
    go_wp2_with fail
    refine (unhide HL _).mono ?_
    rintro _ w10 ⟨rfl, hbl⟩
    have HN := hide (And.intro (keep1 hbl (lt_of_cell (unhide HN).1) (unhide HN).1) (And.intro ((hbl.frozen (lt_of_cell (unhide HN).1)).trans (unhide HN).2.1) ((unhide HN).2.2.below hbl)))
    have HB := hide (bthen (unhide HB) hbl)
    clear hbl
    go_wp2_with fail
    refine (unhide HT _).mono ?_
    rintro _ w11 ⟨rfl, hbl⟩
    have HN := hide (And.intro (keep1 hbl (lt_of_cell (unhide HN).1) (unhide HN).1) (And.intro ((hbl.frozen (lt_of_cell (unhide HN).1)).trans (unhide HN).2.1) ((unhide HN).2.2.below hbl)))
    have HB := hide (bthen (unhide HB) hbl)
    clear hbl
    go_wp2_with fail
    refine (unhide HI _).mono ?_
    rintro _ w12 ⟨rfl, hbl⟩
    have HB := hide (bthen (unhide HB) hbl)
    go_wp2_with fail
    go_ret
    exact ⟨rfl, unhide HB⟩
                
  · have HU := HU xm
    have xn : ¬ q < L := by omega
    have xd := dt xm
    go_wp2_with fail
    refine (unhide HL _).mono ?_
    rintro _ w5 ⟨rfl, hbl⟩
    have HK := hide ((unhide HK).below hbl)
    clear hbl
    have ca' := (unhide HK).ca; have cb' := (unhide HK).cb
    go_wp2_with fail
    clear ca' cb'
    refine (unhide HU _ (unhide HK).na (unhide HK).nb).mono ?_
    rintro _ w6 ⟨rfl, hbl⟩
    have HK := hide ((unhide HK).below hbl)
    clear hbl
    have ca' := (unhide HK).ca; have cb' := (unhide HK).cb
    go_wp2_with fail
    clear ca' cb'
    refine (unhide HG _ (unhide HK).na (unhide HK).nb).mono ?_
    rintro _ w7 ⟨s7, rfl, hN7, hbl⟩
    obtain ⟨a7, n7, c7, rfl⟩ := hN7.slice
    have HK := hide ((unhide HK).below hbl)
    clear hbl
    have HN : Hid ((w7.alloc (.cells #[.slice a7 n7 c7] 33)).cell? ⟨w7.heap.size, 0, none⟩ = some (.slice a7 n7 c7) ∧ (w7.alloc (.cells #[.slice a7 n7 c7] 33)).frozen? ⟨w7.heap.size, 0, none⟩ = false ∧ IsNat (w7.alloc (.cells #[.slice a7 n7 c7] 33)) (.slice a7 n7 c7) G) := ⟨by simp [go_sem], by simp [go_sem], hN7.below (below1 _ _)⟩
    have HB := hide (balloc (unhide HK).bel (.cells #[.slice a7 n7 c7] 33))
    have hz7 : w0.heap.size ≤ w7.heap.size := (unhide HK).bel.size
    clear hN7 HK
    go_wp2_with fail
    refine (refLen_any _ _ _ _ _ (unhide HN).2.2).mono ?_
    rw [unhide HLG]
    rintro _ w8 ⟨rfl, hbl⟩
    have HN := hide (And.intro (keep1 hbl (lt_of_cell (unhide HN).1) (unhide HN).1) (And.intro ((hbl.frozen (lt_of_cell (unhide HN).1)).trans (unhide HN).2.1) ((unhide HN).2.2.below hbl)))
    have HB := hide (bthen (unhide HB) hbl)
    clear hbl
    have cn := (unhide HN).1
    go_wp2_with fail
    clear cn
    refine (half_one _ _ _ _ _ (unhide HN).2.2 (unhide HG3)).mono ?_
    rintro _ w9 ⟨s9, rfl, hN9, hbl⟩
    obtain ⟨a9, n9, c9, rfl⟩ := hN9.slice
    have HN := hide (And.intro (keep1 hbl (lt_of_cell (unhide HN).1) (unhide HN).1) (And.intro ((hbl.frozen (lt_of_cell (unhide HN).1)).trans (unhide HN).2.1) ((unhide HN).2.2.below hbl)))
    have HB := hide (bthen (unhide HB) hbl)
    clear hbl
    have cn := (unhide HN).1
    have fn := (unhide HN).2.1
    go_wp2_with fail
    have HN : Hid ((w9.setCell ⟨w7.heap.size, 0, none⟩ (.slice a9 n9 c9)).cell? ⟨w7.heap.size, 0, none⟩ = some (.slice a9 n9 c9) ∧ (w9.setCell ⟨w7.heap.size, 0, none⟩ (.slice a9 n9 c9)).frozen? ⟨w7.heap.size, 0, none⟩ = false ∧ IsNat (w9.setCell ⟨w7.heap.size, 0, none⟩ (.slice a9 n9 c9)) (.slice a9 n9 c9) (G / 2 ^ 1)) := ⟨World.cell?_setCell_same _ _ _ cn, by rw [frozen_set]; exact fn, hN9.store cn _⟩
    have HB := hide (bset (unhide HB) w7.heap.size hz7 0 (.slice a9 n9 c9))
    clear cn fn hN9
    generalize w9.setCell ⟨w7.heap.size, 0, none⟩ (.slice a9 n9 c9) = w9s at *
    go_wp2_with fail
    refine (unhide HL _).mono ?_
    rintro _ w10 ⟨rfl, hbl⟩
    have HN := hide (And.intro (keep1 hbl (lt_of_cell (unhide HN).1) (unhide HN).1) (And.intro ((hbl.frozen (lt_of_cell (unhide HN).1)).trans (unhide HN).2.1) ((unhide HN).2.2.below hbl)))
    have HB := hide (bthen (unhide HB) hbl)
    clear hbl
    go_wp2_with fail
    refine (unhide HT _).mono ?_
    rintro _ w11 ⟨rfl, hbl⟩
    have HN := hide (And.intro (keep1 hbl (lt_of_cell (unhide HN).1) (unhide HN).1) (And.intro ((hbl.frozen (lt_of_cell (unhide HN).1)).trans (unhide HN).2.1) ((unhide HN).2.2.below hbl)))
    have HB := hide (bthen (unhide HB) hbl)
    clear hbl
    go_wp2_with fail
    refine (unhide HI _).mono ?_
    rintro _ w12 ⟨rfl, hbl⟩
    have HB := hide (bthen (unhide HB) hbl)
    go_wp2_with fail
    go_ret
    exact ⟨rfl, unhide HB⟩
                

set_option maxRecDepth 100000 in
set_option maxHeartbeats 8000000 in
theorem near_bn {w f L Tp P k LA LB TF q : Int} {n : Bool} (a b : Option Addr) (na ca nb cb x y G : Nat) (w0 : World) (hx : IsNat w0 (.slice a na ca) x) (hy : IsNat w0 (.slice b nb cb) y)
    (HF : Hid (∀ W, Calls Try.prog 42 #[.int .i64 w] W fun r W' => r = .returned (.int .i64 f) ∧ Below W.heap.size W W')) (HL : Hid (∀ W, Calls Try.prog 79 #[.int .i64 w] W fun r W' => r = .returned (.int .i64 L) ∧ Below W.heap.size W W')) (HT : Hid (∀ W, Calls Try.prog 41 #[.int .i64 w] W fun r W' => r = .returned (.int .i64 Tp) ∧ Below W.heap.size W W')) (H2 : Hid (∀ W, Calls Try.prog 43 #[.int .i64 f] W fun r W' => r = .returned (.int .u64 P) ∧ Below W.heap.size W W'))
    (hla : (Go.bitLen x : Int) = LA) (hlb : (Go.bitLen y : Int) = LB) 
    (r1 : LA ≤ 20000) (r2 : LB ≤ 20000) (r3 : -20000 ≤ k ∧ k ≤ 20000) (r4 : 0 ≤ f ∧ f ≤ 63) (r5 : -20000 ≤ L ∧ L ≤ 20000) (r6 : -20000 ≤ Tp ∧ Tp ≤ 20000)
    (htf : LA - LB + k - f = TF) (hq : (TF < L ∧ q = L) ∨ (TF = L ∧ q = L) ∨ (L < TF ∧ q = TF))
    (HU : L < TF → Hid (∀ W, IsNat W (.slice a na ca) x → IsNat W (.slice b nb cb) y → Calls Try.prog 80 #[.agg #[.slice a na ca], .agg #[.slice b nb cb], .int .i64 (k - q - f)] W fun r W' => r = .returned (.bool false) ∧ Below W.heap.size W W'))
    (HG : Hid (∀ W, IsNat W (.slice a na ca) x → IsNat W (.slice b nb cb) y → Calls Try.prog 81 #[.agg #[.slice a na ca], .agg #[.slice b nb cb], .int .i64 (k - q)] W fun r W' => ∃ s', r = .returned (.agg #[s']) ∧ IsNat W' s' G ∧ Below W.heap.size W W'))
    {LG S V : Int} (hlg' : (Go.bitLen G : Int) = LG) (d : f + 1 < LG) (hG3 : G < pw 300) (z : decide (L + Tp - 2 < (q + 1)) = false) (hs : lo (G / 2 ^ 1) = S) (t : decide (S < P) = false) (k12 : IntKind.i64.wrap ((q + 1) - L) = (q + 1) - L) (k13 : IntKind.i64.wrap ((q + 1) - L + 1) = (q + 1) - L + 1) (k14 : IntKind.u64.wrap (S - P) = S - P) (HM : Hid (∀ W, Calls Try.prog 22 #[.int .i64 w, .bool n, .int .i64 ((q + 1) - L + 1), .int .u64 (S - P)] W fun r W' => r = .returned (.int .u64 V) ∧ Below W.heap.size W W')) :
    Calls Try.prog 67 #[.int .i64 w, .bool n, .agg #[.slice a na ca], .agg #[.slice b nb cb], .int .i64 k] w0 fun r W' => r = .returned (.int .u64 V) ∧ Below w0.heap.size w0 W' := by
  have k1 : IntKind.i64.wrap (LA - LB) = LA - LB := i64_id (by omega) (by omega)
  have k2 : IntKind.i64.wrap (LA - LB + k) = LA - LB + k := i64_id (by omega) (by omega)
  have k3 : IntKind.i64.wrap (LA - LB + k - f) = TF := by rw [← htf]; exact i64_id (by omega) (by omega)
  have rq1 : -200001 ≤ q ∧ q ≤ 200000 := by rcases hq with h | h | h <;> omega
  have k5 : IntKind.i64.wrap (k - q - f) = k - q - f := i64_id (by omega) (by omega)
  have k7 : IntKind.i64.wrap (k - q) = k - q := i64_id (by omega) (by omega)
  have k8 : IntKind.i64.wrap (f + 1) = f + 1 := i64_id (by omega) (by omega)
  have k9 : IntKind.i64.wrap (q + 1) = q + 1 := i64_id (by omega) (by omega)
  have k10 : IntKind.i64.wrap (L + Tp) = L + Tp := i64_id (by omega) (by omega)
  have k11 : IntKind.i64.wrap (L + Tp - 2) = L + Tp - 2 := i64_id (by omega) (by omega)
  have HLA := hide hla; have HLB := hide hlb
  clear hla hlb r1 r2 r3 r4 r5 r6 rq1 htf
  have HLG := hide hlg'
  clear hlg'
  have HG3 := hide hG3
  clear hG3
  have HS := hide hs
  clear hs
  
  have HX := hide hx; have HY := hide hy
  clear hx hy
  go_enter Try.func67, Try.ntmps67
  go_wp2_with fail
  have HK : Hid (TwoSt w0.heap.size w0 (.slice a na ca) (.slice b nb cb) x y ((w0.alloc (.cells #[.slice a na ca] 33)).alloc (.cells #[.slice b nb cb] 33))) :=
    { ca := by simp [go_sem], cb := by simp [go_sem], na := (unhide HX).below (below2 _ _ _), nb := (unhide HY).below (below2 _ _ _), bel := below2 _ _ _ }
  clear HX HY
  refine (unhide HF _).mono ?_
  rintro _ w1 ⟨rfl, hbl⟩
  have HK := hide ((unhide HK).below hbl)
  clear hbl
  
  go_wp2_with fail
  have HK := hide ((unhide HK).below ((Below.refl _ _).drew))
  refine wp_region_held_drew (S := fun w' => w'.cell? ⟨w0.heap.size, 0, none⟩ = some (.slice a na ca) ∧ w'.cell? ⟨w0.heap.size + 1, 0, none⟩ = some (.slice b nb cb)) (by kernel_rfl) ?_ (fun hHeld => ?_)
  · (try dsimp only)
    exact ⟨(unhide HK).ca, (unhide HK).cb⟩
  refine lst0 8 (by kernel_rfl) ?_
  refine tkH 0 18 1 ?v0r2 rfl (by kernel_rfl) (by kernel_rfl) (fun _ _ _ h => h) (by assumption) (Or.inl ⟨by rfl, ?y0r2⟩) ?_
  case y0r2 => ((intro w hSw; (try dsimp only at hSw); go_simp) <;> with_reducible rfl)
  (try simp only [Act.put, List.setIfInBounds_toArray, List.set_cons_zero, List.set_cons_succ])
  refine tkH 2 20 5 ?v2r2 rfl (by kernel_rfl) (by kernel_rfl) (fun _ _ _ h => h) (by assumption) (Or.inl ⟨by rfl, ?y2r2⟩) ?_
  case y2r2 => ((intro w hSw; (try dsimp only at hSw); go_simp) <;> with_reducible rfl)
  (try simp only [Act.put, List.setIfInBounds_toArray, List.set_cons_zero, List.set_cons_succ])
  refine tkH 5 23 37 ?v5r2 rfl (by kernel_rfl) (by kernel_rfl) (fun _ _ _ h => h) (by assumption) (Or.inl ⟨by rfl, ?y5r2⟩) ?_
  case y5r2 => ((intro w hSw; (try dsimp only at hSw); go_simp) <;> with_reducible rfl)
  (try simp only [Act.put, List.setIfInBounds_toArray, List.set_cons_zero, List.set_cons_succ])
  refine rdH 1 39 rfl (by kernel_rfl) (by kernel_rfl) (fun Kk hKk => ?_)
  go_simp
  refine (refLen_any _ _ _ _ _ (unhide HK).na).mono ?_
  rw [unhide HLA]
  rintro _ w2 ⟨rfl, hbl⟩
  have HK := hide ((unhide HK).below hbl)
  clear hbl
  (try go_wp2_with fail)
  refine hKk.out _ _ ?_ (fun hHeld => ?_)
  · (try dsimp only)
    exact ⟨(unhide HK).ca, (unhide HK).cb⟩
  clear hKk Kk
  (try simp only [List.setIfInBounds_toArray, List.set_cons_zero, List.set_cons_succ])
  refine rdH 3 47 rfl (by kernel_rfl) (by kernel_rfl) (fun Kk hKk => ?_)
  go_simp
  refine (refLen_any _ _ _ _ _ (unhide HK).nb).mono ?_
  rw [unhide HLB]
  rintro _ w3 ⟨rfl, hbl⟩
  have HK := hide ((unhide HK).below hbl)
  clear hbl
  (try go_wp2_with fail)
  refine hKk.out _ _ ?_ (fun hHeld => ?_)
  · (try dsimp only)
    exact ⟨(unhide HK).ca, (unhide HK).cb⟩
  clear hKk Kk
  (try simp only [List.setIfInBounds_toArray, List.set_cons_zero, List.set_cons_succ])
  refine tkH 4 22 63 ?v4r2 rfl (by kernel_rfl) (by kernel_rfl) (fun _ _ _ h => h) (by assumption) (Or.inl ⟨by rfl, ?y4r2⟩) ?_
  case y4r2 => ((intro w hSw; (try dsimp only at hSw); go_simp) <;> with_reducible rfl)
  (try simp only [Act.put, List.setIfInBounds_toArray, List.set_cons_zero, List.set_cons_succ])
  refine tkH 6 24 127 ?v6r2 rfl (by kernel_rfl) (by kernel_rfl) (fun _ _ _ h => h) (by assumption) (Or.inl ⟨by rfl, ?y6r2⟩) ?_
  case y6r2 => ((intro w hSw; (try dsimp only at hSw); go_simp) <;> with_reducible rfl)
  (try simp only [Act.put, List.setIfInBounds_toArray, List.set_cons_zero, List.set_cons_succ])
  refine tkH 7 12 255 ?v7r2 rfl (by kernel_rfl) (by kernel_rfl) (fun _ _ _ h => h) (by assumption) (Or.inl ⟨by rfl, ?y7r2⟩) ?_
  case y7r2 => ((intro w hSw; (try dsimp only at hSw); go_simp) <;> with_reducible rfl)
  (try simp only [Act.put, List.setIfInBounds_toArray, List.set_cons_zero, List.set_cons_succ])
  refine wpAnyH_done (by kernel_rfl) ?_ _
  clear hHeld
  go_wp2_with fail
  refine (unhide HL _).mono ?_
  rintro _ w4 ⟨rfl, hbl⟩
  have HK := hide ((unhide HK).below hbl)
  clear hbl
  rcases hq with ⟨xm, rfl⟩ | ⟨rfl, rfl⟩ | ⟨xm, rfl⟩
  · clear HU
    go_wp2_with fail
    refine (unhide HL _).mono ?_
    rintro _ w5 ⟨rfl, hbl⟩
    have HK := hide ((unhide HK).below hbl)
    clear hbl
    have ca' := (unhide HK).ca; have cb' := (unhide HK).cb
    go_wp2_with fail
    clear ca' cb'
    refine (unhide HG _ (unhide HK).na (unhide HK).nb).mono ?_
    rintro _ w7 ⟨s7, rfl, hN7, hbl⟩
    obtain ⟨a7, n7, c7, rfl⟩ := hN7.slice
    have HK := hide ((unhide HK).below hbl)
    clear hbl
    have HN : Hid ((w7.alloc (.cells #[.slice a7 n7 c7] 33)).cell? ⟨w7.heap.size, 0, none⟩ = some (.slice a7 n7 c7) ∧ (w7.alloc (.cells #[.slice a7 n7 c7] 33)).frozen? ⟨w7.heap.size, 0, none⟩ = false ∧ IsNat (w7.alloc (.cells #[.slice a7 n7 c7] 33)) (.slice a7 n7 c7) G) := ⟨by simp [go_sem], by simp [go_sem], hN7.below (below1 _ _)⟩
    have HB := hide (balloc (unhide HK).bel (.cells #[.slice a7 n7 c7] 33))
    have hz7 : w0.heap.size ≤ w7.heap.size := (unhide HK).bel.size
    clear hN7 HK
    go_wp2_with fail
    refine (refLen_any _ _ _ _ _ (unhide HN).2.2).mono ?_
    rw [unhide HLG]
    rintro _ w8 ⟨rfl, hbl⟩
    have HN := hide (And.intro (keep1 hbl (lt_of_cell (unhide HN).1) (unhide HN).1) (And.intro ((hbl.frozen (lt_of_cell (unhide HN).1)).trans (unhide HN).2.1) ((unhide HN).2.2.below hbl)))
    have HB := hide (bthen (unhide HB) hbl)
    clear hbl
    have cn := (unhide HN).1
    go_wp2_with fail
    clear cn
    refine (half_one _ _ _ _ _ (unhide HN).2.2 (unhide HG3)).mono ?_
    rintro _ w9 ⟨s9, rfl, hN9, hbl⟩
    obtain ⟨a9, n9, c9, rfl⟩ := hN9.slice
    have HN := hide (And.intro (keep1 hbl (lt_of_cell (unhide HN).1) (unhide HN).1) (And.intro ((hbl.frozen (lt_of_cell (unhide HN).1)).trans (unhide HN).2.1) ((unhide HN).2.2.below hbl)))
    have HB := hide (bthen (unhide HB) hbl)
    clear hbl
    have cn := (unhide HN).1
    have fn := (unhide HN).2.1
    go_wp2_with fail
    have HN : Hid ((w9.setCell ⟨w7.heap.size, 0, none⟩ (.slice a9 n9 c9)).cell? ⟨w7.heap.size, 0, none⟩ = some (.slice a9 n9 c9) ∧ (w9.setCell ⟨w7.heap.size, 0, none⟩ (.slice a9 n9 c9)).frozen? ⟨w7.heap.size, 0, none⟩ = false ∧ IsNat (w9.setCell ⟨w7.heap.size, 0, none⟩ (.slice a9 n9 c9)) (.slice a9 n9 c9) (G / 2 ^ 1)) := ⟨World.cell?_setCell_same _ _ _ cn, by rw [frozen_set]; exact fn, hN9.store cn _⟩
    have HB := hide (bset (unhide HB) w7.heap.size hz7 0 (.slice a9 n9 c9))
    clear cn fn hN9
    generalize w9.setCell ⟨w7.heap.size, 0, none⟩ (.slice a9 n9 c9) = w9s at *
    go_wp2_with fail
    refine (unhide HL _).mono ?_
    rintro _ w10 ⟨rfl, hbl⟩
    have HN := hide (And.intro (keep1 hbl (lt_of_cell (unhide HN).1) (unhide HN).1) (And.intro ((hbl.frozen (lt_of_cell (unhide HN).1)).trans (unhide HN).2.1) ((unhide HN).2.2.below hbl)))
    have HB := hide (bthen (unhide HB) hbl)
    clear hbl
    go_wp2_with fail
    refine (unhide HT _).mono ?_
    rintro _ w11 ⟨rfl, hbl⟩
    have HN := hide (And.intro (keep1 hbl (lt_of_cell (unhide HN).1) (unhide HN).1) (And.intro ((hbl.frozen (lt_of_cell (unhide HN).1)).trans (unhide HN).2.1) ((unhide HN).2.2.below hbl)))
    have HB := hide (bthen (unhide HB) hbl)
    clear hbl
    have cn := (unhide HN).1
    go_wp2_with fail
    clear cn
    refine (uint_any _ _ _ _ _ (unhide HN).2.2).mono ?_
    rw [unhide HS]
    rintro _ w12 ⟨rfl, hbl⟩
    have HB := hide (bthen (unhide HB) hbl)
    clear hbl HN
    go_wp2_with fail
    refine (unhide H2 _).mono ?_
    rintro _ w13 ⟨rfl, hbl⟩
    have HB := hide (bthen (unhide HB) hbl)
    clear hbl
    go_wp2_with fail
    refine (unhide HL _).mono ?_
    rintro _ w15 ⟨rfl, hbl⟩
    have HB := hide (bthen (unhide HB) hbl)
    clear hbl
    go_wp2_with fail
    refine (unhide H2 _).mono ?_
    rintro _ w16 ⟨rfl, hbl⟩
    have HB := hide (bthen (unhide HB) hbl)
    clear hbl
    go_wp2_with fail
    refine (unhide HM _).mono ?_
    rintro _ w14 ⟨rfl, hbl⟩
    have HB := hide (bthen (unhide HB) hbl)
    go_wp2_with fail
    go_ret
    exact ⟨rfl, unhide HB⟩
                
  · clear HU
    go_wp2_with fail
    refine (unhide HL _).mono ?_
    rintro _ w5 ⟨rfl, hbl⟩
    have HK := hide ((unhide HK).below hbl)
    clear hbl
    have ca' := (unhide HK).ca; have cb' := (unhide HK).cb
    go_wp2_with fail
    clear ca' cb'
    refine (unhide HG _ (unhide HK).na (unhide HK).nb).mono ?_
    rintro _ w7 ⟨s7, rfl, hN7, hbl⟩
    obtain ⟨a7, n7, c7, rfl⟩ := hN7.slice
    have HK := hide ((unhide HK).below hbl)
    clear hbl
    have HN : Hid ((w7.alloc (.cells #[.slice a7 n7 c7] 33)).cell? ⟨w7.heap.size, 0, none⟩ = some (.slice a7 n7 c7) ∧ (w7.alloc (.cells #[.slice a7 n7 c7] 33)).frozen? ⟨w7.heap.size, 0, none⟩ = false ∧ IsNat (w7.alloc (.cells #[.slice a7 n7 c7] 33)) (.slice a7 n7 c7) G) := ⟨by simp [go_sem], by simp [go_sem], hN7.below (below1 _ _)⟩
    have HB := hide (balloc (unhide HK).bel (.cells #[.slice a7 n7 c7] 33))
    have hz7 : w0.heap.size ≤ w7.heap.size := (unhide HK).bel.size
    clear hN7 HK
    go_wp2_with fail
    refine (refLen_any _ _ _ _ _ (unhide HN).2.2).mono ?_
    rw [unhide HLG]
    rintro _ w8 ⟨rfl, hbl⟩
    have HN := hide (And.intro (keep1 hbl (lt_of_cell (unhide HN).1) (unhide HN).1) (And.intro ((hbl.frozen (lt_of_cell (unhide HN).1)).trans (unhide HN).2.1) ((unhide HN).2.2.below hbl)))
    have HB := hide (bthen (unhide HB) hbl)
    clear hbl
    have cn := (unhide HN).1
    go_wp2_with fail
    clear cn
    refine (half_one _ _ _ _ _ (unhide HN).2.2 (unhide HG3)).mono ?_
    rintro _ w9 ⟨s9, rfl, hN9, hbl⟩
    obtain ⟨a9, n9, c9, rfl⟩ := hN9.slice
    have HN := hide (And.intro (keep1 hbl (lt_of_cell (unhide HN).1) (unhide HN).1) (And.intro ((hbl.frozen (lt_of_cell (unhide HN).1)).trans (unhide HN).2.1) ((unhide HN).2.2.below hbl)))
    have HB := hide (bthen (unhide HB) hbl)
    clear hbl
    have cn := (unhide HN).1
    have fn := (unhide HN).2.1
    go_wp2_with fail
    have HN : Hid ((w9.setCell ⟨w7.heap.size, 0, none⟩ (.slice a9 n9 c9)).cell? ⟨w7.heap.size, 0, none⟩ = some (.slice a9 n9 c9) ∧ (w9.setCell ⟨w7.heap.size, 0, none⟩ (.slice a9 n9 c9)).frozen? ⟨w7.heap.size, 0, none⟩ = false ∧ IsNat (w9.setCell ⟨w7.heap.size, 0, none⟩ (.slice a9 n9 c9)) (.slice a9 n9 c9) (G / 2 ^ 1)) := ⟨World.cell?_setCell_same _ _ _ cn, by rw [frozen_set]; exact fn, hN9.store cn _⟩
    have HB := hide (bset (unhide HB) w7.heap.size hz7 0 (.slice a9 n9 c9))
    clear cn fn hN9
    generalize w9.setCell ⟨w7.heap.size, 0, none⟩ (.slice a9 n9 c9) = w9s at *
    go_wp2_with fail
    refine (unhide HL _).mono ?_
    rintro _ w10 ⟨rfl, hbl⟩
    have HN := hide (And.intro (keep1 hbl (lt_of_cell (unhide HN).1) (unhide HN).1) (And.intro ((hbl.frozen (lt_of_cell (unhide HN).1)).trans (unhide HN).2.1) ((unhide HN).2.2.below hbl)))
    have HB := hide (bthen (unhide HB) hbl)
    clear hbl
    go_wp2_with fail
    refine (unhide HT _).mono ?_
    rintro _ w11 ⟨rfl, hbl⟩
    have HN := hide (And.intro (keep1 hbl (lt_of_cell (unhide HN).1) (unhide HN).1) (And.intro ((hbl.frozen (lt_of_cell (unhide HN).1)).trans (unhide HN).2.1) ((unhide HN).2.2.below hbl)))
    have HB := hide (bthen (unhide HB) hbl)
    clear hbl
    have cn := (unhide HN).1
    go_wp2_with fail
    clear cn
    refine (uint_any _ _ _ _ _ (unhide HN).2.2).mono ?_
    rw [unhide HS]
    rintro _ w12 ⟨rfl, hbl⟩
    have HB := hide (bthen (unhide HB) hbl)
    clear hbl HN
    go_wp2_with fail
    refine (unhide H2 _).mono ?_
    rintro _ w13 ⟨rfl, hbl⟩
    have HB := hide (bthen (unhide HB) hbl)
    clear hbl
    go_wp2_with fail
    refine (unhide HL _).mono ?_
    rintro _ w15 ⟨rfl, hbl⟩
    have HB := hide (bthen (unhide HB) hbl)
    clear hbl
    go_wp2_with fail
    refine (unhide H2 _).mono ?_
    rintro _ w16 ⟨rfl, hbl⟩
    have HB := hide (bthen (unhide HB) hbl)
    clear hbl
    go_wp2_with fail
    refine (unhide HM _).mono ?_
    rintro _ w14 ⟨rfl, hbl⟩
    have HB := hide (bthen (unhide HB) hbl)
    go_wp2_with fail
    go_ret
    exact ⟨rfl, unhide HB⟩
                
  · have HU := HU xm
    have xn : ¬ q < L := by omega
    have xd := dt xm
    go_wp2_with fail
    refine (unhide HL _).mono ?_
    rintro _ w5 ⟨rfl, hbl⟩
    have HK := hide ((unhide HK).below hbl)
    clear hbl
    have ca' := (unhide HK).ca; have cb' := (unhide HK).cb
    go_wp2_with fail
    clear ca' cb'
    refine (unhide HU _ (unhide HK).na (unhide HK).nb).mono ?_
    rintro _ w6 ⟨rfl, hbl⟩
    have HK := hide ((unhide HK).below hbl)
    clear hbl
    have ca' := (unhide HK).ca; have cb' := (unhide HK).cb
    go_wp2_with fail
    clear ca' cb'
    refine (unhide HG _ (unhide HK).na (unhide HK).nb).mono ?_
    rintro _ w7 ⟨s7, rfl, hN7, hbl⟩
    obtain ⟨a7, n7, c7, rfl⟩ := hN7.slice
    have HK := hide ((unhide HK).below hbl)
    clear hbl
    have HN : Hid ((w7.alloc (.cells #[.slice a7 n7 c7] 33)).cell? ⟨w7.heap.size, 0, none⟩ = some (.slice a7 n7 c7) ∧ (w7.alloc (.cells #[.slice a7 n7 c7] 33)).frozen? ⟨w7.heap.size, 0, none⟩ = false ∧ IsNat (w7.alloc (.cells #[.slice a7 n7 c7] 33)) (.slice a7 n7 c7) G) := ⟨by simp [go_sem], by simp [go_sem], hN7.below (below1 _ _)⟩
    have HB := hide (balloc (unhide HK).bel (.cells #[.slice a7 n7 c7] 33))
    have hz7 : w0.heap.size ≤ w7.heap.size := (unhide HK).bel.size
    clear hN7 HK
    go_wp2_with fail
    refine (refLen_any _ _ _ _ _ (unhide HN).2.2).mono ?_
    rw [unhide HLG]
    rintro _ w8 ⟨rfl, hbl⟩
    have HN := hide (And.intro (keep1 hbl (lt_of_cell (unhide HN).1) (unhide HN).1) (And.intro ((hbl.frozen (lt_of_cell (unhide HN).1)).trans (unhide HN).2.1) ((unhide HN).2.2.below hbl)))
    have HB := hide (bthen (unhide HB) hbl)
    clear hbl
    have cn := (unhide HN).1
    go_wp2_with fail
    clear cn
    refine (half_one _ _ _ _ _ (unhide HN).2.2 (unhide HG3)).mono ?_
    rintro _ w9 ⟨s9, rfl, hN9, hbl⟩
    obtain ⟨a9, n9, c9, rfl⟩ := hN9.slice
    have HN := hide (And.intro (keep1 hbl (lt_of_cell (unhide HN).1) (unhide HN).1) (And.intro ((hbl.frozen (lt_of_cell (unhide HN).1)).trans (unhide HN).2.1) ((unhide HN).2.2.below hbl)))
    have HB := hide (bthen (unhide HB) hbl)
    clear hbl
    have cn := (unhide HN).1
    have fn := (unhide HN).2.1
    go_wp2_with fail
    have HN : Hid ((w9.setCell ⟨w7.heap.size, 0, none⟩ (.slice a9 n9 c9)).cell? ⟨w7.heap.size, 0, none⟩ = some (.slice a9 n9 c9) ∧ (w9.setCell ⟨w7.heap.size, 0, none⟩ (.slice a9 n9 c9)).frozen? ⟨w7.heap.size, 0, none⟩ = false ∧ IsNat (w9.setCell ⟨w7.heap.size, 0, none⟩ (.slice a9 n9 c9)) (.slice a9 n9 c9) (G / 2 ^ 1)) := ⟨World.cell?_setCell_same _ _ _ cn, by rw [frozen_set]; exact fn, hN9.store cn _⟩
    have HB := hide (bset (unhide HB) w7.heap.size hz7 0 (.slice a9 n9 c9))
    clear cn fn hN9
    generalize w9.setCell ⟨w7.heap.size, 0, none⟩ (.slice a9 n9 c9) = w9s at *
    go_wp2_with fail
    refine (unhide HL _).mono ?_
    rintro _ w10 ⟨rfl, hbl⟩
    have HN := hide (And.intro (keep1 hbl (lt_of_cell (unhide HN).1) (unhide HN).1) (And.intro ((hbl.frozen (lt_of_cell (unhide HN).1)).trans (unhide HN).2.1) ((unhide HN).2.2.below hbl)))
    have HB := hide (bthen (unhide HB) hbl)
    clear hbl
    go_wp2_with fail
    refine (unhide HT _).mono ?_
    rintro _ w11 ⟨rfl, hbl⟩
    have HN := hide (And.intro (keep1 hbl (lt_of_cell (unhide HN).1) (unhide HN).1) (And.intro ((hbl.frozen (lt_of_cell (unhide HN).1)).trans (unhide HN).2.1) ((unhide HN).2.2.below hbl)))
    have HB := hide (bthen (unhide HB) hbl)
    clear hbl
    have cn := (unhide HN).1
    go_wp2_with fail
    clear cn
    refine (uint_any _ _ _ _ _ (unhide HN).2.2).mono ?_
    rw [unhide HS]
    rintro _ w12 ⟨rfl, hbl⟩
    have HB := hide (bthen (unhide HB) hbl)
    clear hbl HN
    go_wp2_with fail
    refine (unhide H2 _).mono ?_
    rintro _ w13 ⟨rfl, hbl⟩
    have HB := hide (bthen (unhide HB) hbl)
    clear hbl
    go_wp2_with fail
    refine (unhide HL _).mono ?_
    rintro _ w15 ⟨rfl, hbl⟩
    have HB := hide (bthen (unhide HB) hbl)
    clear hbl
    go_wp2_with fail
    refine (unhide H2 _).mono ?_
    rintro _ w16 ⟨rfl, hbl⟩
    have HB := hide (bthen (unhide HB) hbl)
    clear hbl
    go_wp2_with fail
    refine (unhide HM _).mono ?_
    rintro _ w14 ⟨rfl, hbl⟩
    have HB := hide (bthen (unhide HB) hbl)
    go_wp2_with fail
    go_ret
    exact ⟨rfl, unhide HB⟩
                

end Go.Proofs.Ytepdmpcgkecjiaa
