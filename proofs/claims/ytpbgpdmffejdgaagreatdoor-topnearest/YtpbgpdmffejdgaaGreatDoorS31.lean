/- WLensB, RadR, WhA, WhB, WhE, ChB. -/
import Derived.Test.YtpbgpdmffejdgaaGreatDoorS01
import Derived.Test.YtpbgpdmffejdgaaGreatDoorS09
import Derived.Test.YtpbgpdmffejdgaaGreatDoorS16
import Derived.Test.YtpbgpdmffejdgaaGreatDoorS21
import Derived.Test.YtpbgpdmffejdgaaGreatDoorS24
import Derived.Test.YtpbgpdmffejdgaaGreatDoorS25
import Derived.Test.YtpbgpdmffejdgaaGreatDoorS30
namespace Go.Proofs.YtpbgpdmffejdgaaGreatDoor.W
open Go.RowKit

theorem bitLen_of {v k : Nat} (h : v < 2 ^ k) : Go.bitLen v ≤ k := by
  unfold Go.bitLen
  split
  · omega
  · rename_i h0
    have := (Nat.log2_lt h0).2 h
    omega
theorem bitLen_128 {v : Nat} (hv : W2 v) : Go.bitLen v ≤ 128 := bitLen_of hv
theorem i64_id {x : Int} (h1 : -9223372036854775808 ≤ x) (h2 : x < 9223372036854775808) : IntKind.i64.wrap x = x := by
  simp only [IntKind.wrap, IntKind.bits, IntKind.signed]
  simp
  omega

end Go.Proofs.YtpbgpdmffejdgaaGreatDoor.W
namespace Go.Proofs.YtpbgpdmffejdgaaGreatDoor
open Go.RowKit
open Go.Proofs.YtpbgpdmffejdgaaGreatDoor.W

theorem u64_id {x : Int} (h1 : 0 ≤ x) (h2 : x < 18446744073709551616) : IntKind.u64.wrap x = x := by
  simp only [IntKind.wrap, IntKind.bits, IntKind.signed]
  simp
  omega
/-- Two numbers in variables. -/
structure OvSt (N M : Nat) (w : World) (sa sb : Value) (x y : Nat) (w' : World) : Prop where
  ca : w'.cell? ⟨N, 0, none⟩ = some sa
  cb : w'.cell? ⟨M, 0, none⟩ = some sb
  na : IsNat w' sa x
  nb : IsNat w' sb y
  bel : Below w.heap.size w w'
theorem OvSt.below {N M : Nat} {w : World} {sa sb : Value} {x y : Nat} {w' w'' : World} (h : OvSt N M w sa sb x y w') (hb : Below w'.heap.size w' w'') : OvSt N M w sa sb x y w'' :=
  { ca := keep1 hb (lt_of_cell h.ca) h.ca, cb := keep1 hb (lt_of_cell h.cb) h.cb, na := h.na.below hb, nb := h.nb.below hb, bel := bthen h.bel hb }

end Go.Proofs.YtpbgpdmffejdgaaGreatDoor
namespace Go.Proofs.YtpbgpdmffejdgaaGreatDoor
open Go.RowKit
open Go.Proofs.YtpbgpdmffejdgaaGreatDoor.W

theorem lstm {P : Program} {ops : Array Oper} {Q : Exit → Act → World → Prop} {md : Region.Mode} {S : World → Prop} (n m : Nat) {fuel : Nat} {listed : Array Bool} {a : Act} {w : World} (h : listed = lst n m) (k : wpAnyH P md ops Q S fuel (lst n m) a w) : wpAnyH P md ops Q S fuel listed a w := h ▸ k
theorem fresh_room2 {N b : Nat} {v0 v1 : Value} {w : World} (h : Fresh N #[v0, v1] b w) : Room b 2 w := fun o ho => by
  refine ⟨?_, h.thawed o⟩
  match o, ho with
  | 0, _ => exact ⟨_, h.cell 0 _ rfl⟩
  | 1, _ => exact ⟨_, h.cell 1 _ rfl⟩
theorem bset3 {a b : World} {c : Nat} (h : Below a.heap.size a b) (hc : a.heap.size ≤ c) (v0 v1 v2 : Value) : Below a.heap.size a (((b.setCell ⟨c, 0, none⟩ v0).setCell ⟨c, 1, none⟩ v1).setCell ⟨c, 2, none⟩ v2) := bset (bset2 h hc _ _) _ hc _ _
theorem At2.set3 {b c : Nat} {x y : Value} {w : World} (h : At2 b x y w) (hc : b ≠ c) (v0 v1 v2 : Value) : At2 b x y (((w.setCell ⟨c, 0, none⟩ v0).setCell ⟨c, 1, none⟩ v1).setCell ⟨c, 2, none⟩ v2) := ((h.set hc _ _).set hc _ _).set hc _ _
theorem Room.off {b c n : Nat} {w : World} (h : Room b n w) (hc : b ≠ c) (o' : Nat) (v : Value) : Room b n (w.setCell ⟨c, o', none⟩ v) := fun o ho => by
  obtain ⟨⟨u, h1⟩, h2⟩ := h o ho
  exact ⟨⟨u, keep_set c o' v hc h1⟩, by rw [frozen_set]; exact h2⟩
set_option maxRecDepth 100000 in
set_option maxHeartbeats 2000000 in
theorem broken_l {K1 X1 S1 h l h' l' E : Int} {n1 t : Bool} (W : World) (HO : Ct 161 #[.int .u64 S1] (.agg #[.int .u64 h, .int .u64 l])) (kx : IntKind.i64.wrap (-X1) = E) (HR : Ct 262 #[.agg #[.int .u64 h, .int .u64 l], .int .i64 E] (.tuple #[.agg #[.int .u64 h', .int .u64 l'], .bool t])) :
    Calls Tryz.prog 231 #[.agg #[.bool n1, .int .i64 K1, .int .i64 X1, .int .u64 S1]] W fun r W' => r = .returned (.bool t) ∧ Below W.heap.size W W' := by
  go_enter Tryz.func231, Tryz.ntmps231
  go_wp2_with fail
  have HB := hide (below1 W (.cells #[.bool n1, .int .i64 K1, .int .i64 X1, .int .u64 S1] 37)).drew
  have HA := hide ((at4_new W (.bool n1) (.int .i64 K1) (.int .i64 X1) (.int .u64 S1) 37).below ((Below.refl _ _).drew))
  refine wp_region_held_drew (S := fun w' => (w'.cell? ⟨W.heap.size, 0, none⟩ = some (.bool n1) ∧ w'.cell? ⟨W.heap.size, 1, none⟩ = some (.int .i64 K1) ∧ w'.cell? ⟨W.heap.size, 2, none⟩ = some (.int .i64 X1) ∧ w'.cell? ⟨W.heap.size, 3, none⟩ = some (.int .u64 S1))) (by kernel_rfl) ?_ (fun hHeld => ?_)
  · (try dsimp only)
    exact unhide HA
  refine wo_start (N := W.heap.size + 1) (i1 := 10) (d1 := 3) (v1 := #[.int .u64 0, .int .u64 0]) (t1 := 135) (f := 2) (n := 10) (T := fun w' => Below W.heap.size W w') (by kernel_rfl) (by kernel_rfl) (fun _ _ _ _ _ h => h) (stable_at4 _ _ _ _ _) ?_ (stable_below W) hHeld (unhide HB) (by simp) ?_
  · intro a w K h
    unfold wpOp
    go_simp
    exact Or.inl h
  clear hHeld
  refine woA 0 6 ?_
  refine woA 1 7 ?_
  refine woA 3 9 ?_
  refine woA 4 10 ?_
  refine woA 5 11 ?_
  refine wo_call (c := 2) (o := { dst := some 8, op := _, type := _, pos := _, after := _, guard := _ }) rfl (by kernel_rfl) (by kernel_rfl) (fun u hSu hTu Kk hKk => ?_)
  go_simp
  refine (unhide HO _).mono ?_
  rintro _ wn ⟨rfl, hbl⟩
  have HTn := hide (bthen hTu hbl)
  clear hTu hSu
  (try go_wp2_with fail)
  refine hKk.out _ _ (fun w' => Below W.heap.size W w') (by assumption) (stable_below W) (unhide HTn) ?_
  clear hKk Kk HTn
  (try simp only [Act.put, List.setIfInBounds_toArray, List.set_cons_zero, List.set_cons_succ])
  refine wo_call (c := 6) (o := { dst := some 12, op := _, type := _, pos := _, after := _, guard := _ }) rfl (by kernel_rfl) (by kernel_rfl) (fun u hSu hTu Kk hKk => ?_)
  go_simp
  refine (unhide HR _).mono ?_
  rintro _ wn ⟨rfl, hbl⟩
  have HTn := hide (bthen hTu hbl)
  clear hTu hSu
  (try go_wp2_with fail)
  refine hKk.out _ _ (fun w' => Below W.heap.size W w') (by assumption) (stable_below W) (unhide HTn) ?_
  clear hKk Kk HTn
  (try simp only [Act.put, List.setIfInBounds_toArray, List.set_cons_zero, List.set_cons_succ])
  refine woA 7 5 ?_
  refine woA 8 13 ?_
  refine woA 9 14 ?_
  refine wo_fin (by kernel_rfl) (fun wf b1 hSu hTu k1 => ?_)
  (try simp only [Act.put, List.setIfInBounds_toArray, List.set_cons_zero, List.set_cons_succ])
  unfold ptr
  have zb := k1.base
  have HRm := hide (fresh_room2 k1)
  obtain ⟨⟨v0, c0⟩, f0⟩ := (unhide HRm) 0 (by omega)
  obtain ⟨⟨v1, c1⟩, f1⟩ := (unhide HRm) 1 (by omega)
  refine lstm 13 2047 (by kernel_rfl) ?_
  refine rdA 11 4095 (fun Kk hKk => ?_)
  go_simp
  refine hKk.out _ _ ?_ (fun hHeld => ?_)
  · (try dsimp only)
    exact At4.set2 hSu (by omega) _ _
  clear hKk Kk
  (try simp only [Act.put, List.setIfInBounds_toArray, List.set_cons_zero, List.set_cons_succ])
  refine tkA 12 4 8191 ?_
  refine wpAnyH_done (by kernel_rfl) ?_ _
  have HB := hide (bset2 (c := b1) hTu (by omega) (.int .u64 h') (.int .u64 l'))
  clear hHeld hSu hTu k1 c0 c1 f0 f1
  generalize (wf.setCell ⟨b1, 0, none⟩ (.int .u64 h')).setCell ⟨b1, 1, none⟩ (.int .u64 l') = wx at *
  go_wp2_with fail
  go_ret
  exact ⟨rfl, unhide HB⟩

end Go.Proofs.YtpbgpdmffejdgaaGreatDoor
namespace Go.Proofs.YtpbgpdmffejdgaaGreatDoor
open Go.RowKit
open Go.Proofs.YtpbgpdmffejdgaaGreatDoor.W

set_option maxRecDepth 100000 in
set_option maxHeartbeats 2000000 in
theorem split_l {K1 X1 S1 h l h' l' E E1 n a o : Int} {n1 t : Bool} (W : World) (HO : Ct 161 #[.int .u64 S1] (.agg #[.int .u64 h, .int .u64 l])) (kx : IntKind.i64.wrap (-X1) = E) (ke : IntKind.i64.wrap (E - 1) = E1) (HR : Ct 262 #[.agg #[.int .u64 h, .int .u64 l], .int .i64 E1] (.tuple #[.agg #[.int .u64 h', .int .u64 l'], .bool t])) (kn : l' / 2 = n) (ka : bits .and .u64 l' 1 = a) (ko : bits .and .u64 n 1 = o) :
    Calls Tryz.prog 232 #[.agg #[.bool n1, .int .i64 K1, .int .i64 X1, .int .u64 S1]] W fun r W' => r = .returned (.tuple #[.int .u64 n, .agg #[.bool (a == 1), .bool t, .bool (o == 1)]]) ∧ Below W.heap.size W W' := by
  go_enter Tryz.func232, Tryz.ntmps232
  go_wp2_with fail
  have HB := hide (below2 W (.cells #[.bool n1, .int .i64 K1, .int .i64 X1, .int .u64 S1] 37) (.cells #[.bool false, .bool false, .bool false] 132)).drew
  have HA := hide ((at4_new2a W (.bool n1) (.int .i64 K1) (.int .i64 X1) (.int .u64 S1) 37 (.cells #[.bool false, .bool false, .bool false] 132)).below ((Below.refl _ _).drew))
  have HR3 : Hid (Room (W.heap.size + 1) 3 ((W.alloc (.cells #[.bool n1, .int .i64 K1, .int .i64 X1, .int .u64 S1] 37)).alloc (.cells #[.bool false, .bool false, .bool false] 132)).drew) := by
    intro o ho
    match o, ho with
    | 0, _ | 1, _ | 2, _ => simp [go_sem]
  refine wp_region_held_drew (S := fun w' => (w'.cell? ⟨W.heap.size, 0, none⟩ = some (.bool n1) ∧ w'.cell? ⟨W.heap.size, 1, none⟩ = some (.int .i64 K1) ∧ w'.cell? ⟨W.heap.size, 2, none⟩ = some (.int .i64 X1) ∧ w'.cell? ⟨W.heap.size, 3, none⟩ = some (.int .u64 S1)) ∧ Room (W.heap.size + 1) 3 w') (by kernel_rfl) ?_ (fun hHeld => ?_)
  · (try dsimp only)
    exact ⟨unhide HA, unhide HR3⟩
  refine wo_start (N := W.heap.size + 2) (i1 := 11) (d1 := 4) (v1 := #[.int .u64 0, .int .u64 0]) (t1 := 135) (f := 2) (n := 11) (T := fun w' => Below W.heap.size W w') (by kernel_rfl) (by kernel_rfl) (fun _ _ _ _ _ h => h) (fun _ _ h hb => ⟨At4.below h.1 hb, Room.below h.2 hb⟩) ?_ (stable_below W) hHeld (unhide HB) (by simp) ?_
  · intro a w K h
    unfold wpOp
    go_simp
    exact Or.inl h
  clear hHeld
  refine woA 0 7 ?_
  refine woA 1 8 ?_
  refine woA 3 10 ?_
  refine woA 4 11 ?_
  refine woA 5 12 ?_
  refine woA 6 13 ?_
  refine wo_call (c := 2) (o := { dst := some 9, op := _, type := _, pos := _, after := _, guard := _ }) rfl (by kernel_rfl) (by kernel_rfl) (fun u hSu hTu Kk hKk => ?_)
  go_simp
  refine (unhide HO _).mono ?_
  rintro _ wn ⟨rfl, hbl⟩
  have HTn := hide (bthen hTu hbl)
  clear hTu hSu
  (try go_wp2_with fail)
  refine hKk.out _ _ (fun w' => Below W.heap.size W w') (by assumption) (stable_below W) (unhide HTn) ?_
  clear hKk Kk HTn
  (try simp only [Act.put, List.setIfInBounds_toArray, List.set_cons_zero, List.set_cons_succ])
  refine wo_call (c := 7) (o := { dst := some 14, op := _, type := _, pos := _, after := _, guard := _ }) rfl (by kernel_rfl) (by kernel_rfl) (fun u hSu hTu Kk hKk => ?_)
  go_simp
  refine (unhide HR _).mono ?_
  rintro _ wn ⟨rfl, hbl⟩
  have HTn := hide (bthen hTu hbl)
  clear hTu hSu
  (try go_wp2_with fail)
  refine hKk.out _ _ (fun w' => Below W.heap.size W w') (by assumption) (stable_below W) (unhide HTn) ?_
  clear hKk Kk HTn
  (try simp only [Act.put, List.setIfInBounds_toArray, List.set_cons_zero, List.set_cons_succ])
  refine woA 8 6 ?_
  refine woA 9 15 ?_
  refine woA 10 16 ?_
  refine wo_fin (by kernel_rfl) (fun wf b1 hSu hTu k1 => ?_)
  (try simp only [Act.put, List.setIfInBounds_toArray, List.set_cons_zero, List.set_cons_succ])
  unfold ptr
  have zb := k1.base
  have HRm := hide (fresh_room2 k1)
  obtain ⟨⟨v0, c0⟩, f0⟩ := (unhide HRm) 0 (by omega)
  obtain ⟨⟨v1, c1⟩, f1⟩ := (unhide HRm) 1 (by omega)
  refine lstm 14 4095 (by kernel_rfl) ?_
  refine rdA 12 8191 (fun Kk hKk => ?_)
  go_simp
  refine hKk.out _ _ ?_ (fun hHeld => ?_)
  · (try dsimp only)
    exact ⟨At4.set2 hSu.1 (by omega) _ _, (hSu.2.off (by omega) _ _).off (by omega) _ _⟩
  clear hKk Kk
  (try simp only [Act.put, List.setIfInBounds_toArray, List.set_cons_zero, List.set_cons_succ])
  refine tkA 13 5 16383 ?_
  refine wpAnyH_done (by kernel_rfl) ?_ _
  have HB := hide (bset2 (c := b1) hTu (by omega) (.int .u64 h') (.int .u64 l'))
  have H2 := hide (at2_set2 (unhide HRm) (.int .u64 h') (.int .u64 l'))
  have HR3 := hide hHeld.2
  clear hHeld hSu hTu k1 c0 c1 f0 f1 HA HRm
  generalize (wf.setCell ⟨b1, 0, none⟩ (.int .u64 h')).setCell ⟨b1, 1, none⟩ (.int .u64 l') = wx at *
  obtain ⟨c0, c1⟩ := unhide H2
  go_wp2_with fail
  clear c0 c1
  have HB := hide (unhide HB).drew
  have H2 := hide ((unhide H2).below ((Below.refl _ _).drew))
  have HR3 := hide ((unhide HR3).below ((Below.refl _ _).drew))
  refine wp_region_held_drew (S := fun w' => (w'.cell? ⟨b1, 0, none⟩ = some (.int .u64 h') ∧ w'.cell? ⟨b1, 1, none⟩ = some (.int .u64 l')) ∧ Room (W.heap.size + 1) 3 w') (by kernel_rfl) ?_ (fun hHeld => ?_)
  · (try dsimp only)
    exact ⟨unhide H2, unhide HR3⟩
  refine lst0 12 (by kernel_rfl) ?_
  refine tkA 0 20 1 ?_
  refine tkA 1 21 3 ?_
  refine tkA 2 22 7 ?_
  refine tkA 3 23 15 ?_
  refine tkA 4 24 31 ?_
  refine tkA 5 25 63 ?_
  refine tkA 6 26 127 ?_
  refine tkA 7 27 255 ?_
  refine tkA 8 28 511 ?_
  refine tkA 9 29 1023 ?_
  refine tkA 10 2 2047 ?_
  refine rdA 11 4095 (fun Kk hKk => ?_)
  obtain ⟨⟨v0, c0⟩, r0⟩ := hHeld.2 0 (by omega)
  obtain ⟨⟨v1, c1⟩, r1⟩ := hHeld.2 1 (by omega)
  obtain ⟨⟨v2, c2⟩, r2⟩ := hHeld.2 2 (by omega)
  generalize wx.drew = wy at *
  go_simp
  refine hKk.out _ _ ?_ (fun hHeld => ?_)
  · (try dsimp only)
    exact ⟨At2.set3 hHeld.1 (by omega) _ _ _, ((hHeld.2.set _ _).set _ _).set _ _⟩
  clear hKk Kk
  (try simp only [List.setIfInBounds_toArray, List.set_cons_zero, List.set_cons_succ])
  refine wpAnyH_done (by kernel_rfl) ?_ _
  go_wp2
  exact bodyPost_ret (v := .tuple #[.int .u64 n, .agg #[.bool (a == 1), .bool t, .bool (o == 1)]]) (by simp (maxDischargeDepth := 8) [results, Tryz.results232, go_sem, c0, c1, c2]) rfl ⟨rfl, bset3 (unhide HB) (show W.heap.size ≤ W.heap.size + 1 by omega) _ _ _⟩

end Go.Proofs.YtpbgpdmffejdgaaGreatDoor
namespace Go.Proofs.YtpbgpdmffejdgaaGreatDoor
open Go.RowKit
open Go.Proofs.YtpbgpdmffejdgaaGreatDoor.W

/-- The variables of Down: the unit, the quotient, the rest, the result. -/
structure DnSt (W : World) (N bu bq br : Nat) (su sq sr : Value) (u q r : Nat) (w : World) : Prop where
  cu : w.cell? ⟨bu, 0, none⟩ = some su
  cq : w.cell? ⟨bq, 0, none⟩ = some sq
  cr : w.cell? ⟨br, 0, none⟩ = some sr
  nu : IsNat w su u
  nq : IsNat w sq q
  nr : IsNat w sr r
  cv : w.cell? ⟨N, 0, none⟩ = some (.slice none 0 0)
  fv : w.frozen? ⟨N, 0, none⟩ = false
  bel : Below W.heap.size W w
theorem DnSt.below {W : World} {N bu bq br : Nat} {su sq sr : Value} {u q r : Nat} {w w' : World} (h : DnSt W N bu bq br su sq sr u q r w) (hb : Below w.heap.size w w') : DnSt W N bu bq br su sq sr u q r w' :=
  { cu := keep1 hb (lt_of_cell h.cu) h.cu, cq := keep1 hb (lt_of_cell h.cq) h.cq, cr := keep1 hb (lt_of_cell h.cr) h.cr, nu := h.nu.below hb, nq := h.nq.below hb, nr := h.nr.below hb, cv := keep1 hb (lt_of_cell h.cv) h.cv, fv := (hb.frozen (lt_of_cell h.cv)).trans h.fv, bel := bthen h.bel hb }
end Go.Proofs.YtpbgpdmffejdgaaGreatDoor
namespace Go.Proofs.YtpbgpdmffejdgaaGreatDoor
open Go.RowKit
open Go.Proofs.YtpbgpdmffejdgaaGreatDoor.W

set_option maxHeartbeats 4000000 in
set_option maxRecDepth 100000 in
theorem amount_hi {K X S h l h' l' h'' l'' E : Int} {n t : Bool} (W : World) (HO : Ct 161 #[.int .u64 S] (.agg #[.int .u64 h, .int .u64 l])) (g : 64 < X) (HL : Ct 234 #[.agg #[.int .u64 h, .int .u64 l], .int .i64 64] (.agg #[.int .u64 h', .int .u64 l'])) (kx : IntKind.i64.wrap (-X) = E) (HR : Ct 262 #[.agg #[.int .u64 h', .int .u64 l'], .int .i64 E] (.tuple #[.agg #[.int .u64 h'', .int .u64 l''], .bool t])) :
    Calls Tryz.prog 247 #[.agg #[.bool n, .int .i64 K, .int .i64 X, .int .u64 S]] W fun r W' => r = .returned (.agg #[.int .u64 h'', .int .u64 l'']) ∧ Below W.heap.size W W' := by
  go_enter Tryz.func247, Tryz.ntmps247
  go_wp2_with fail
  have HB := hide (below2 W (.cells #[.bool n, .int .i64 K, .int .i64 X, .int .u64 S] 37) (.cells #[.int .u64 0, .int .u64 0] 135)).drew
  have HA := hide ((at4_new2a W (.bool n) (.int .i64 K) (.int .i64 X) (.int .u64 S) 37 (.cells #[.int .u64 0, .int .u64 0] 135)).below ((Below.refl _ _).drew))
  have HR2 : Hid (Room (W.heap.size + 1) 2 ((W.alloc (.cells #[.bool n, .int .i64 K, .int .i64 X, .int .u64 S] 37)).alloc (.cells #[.int .u64 0, .int .u64 0] 135)).drew) := by
    intro o ho
    match o, ho with
    | 0, _ | 1, _ => simp [go_sem]
  refine wp_region_held_drew (S := fun w' => (w'.cell? ⟨W.heap.size, 0, none⟩ = some (.bool n) ∧ w'.cell? ⟨W.heap.size, 1, none⟩ = some (.int .i64 K) ∧ w'.cell? ⟨W.heap.size, 2, none⟩ = some (.int .i64 X) ∧ w'.cell? ⟨W.heap.size, 3, none⟩ = some (.int .u64 S)) ∧ Room (W.heap.size + 1) 2 w') (by kernel_rfl) ?_ (fun hHeld => ?_)
  · (try dsimp only)
    exact ⟨unhide HA, unhide HR2⟩
  refine wo_start (N := W.heap.size + 2) (i1 := 7) (d1 := 3) (v1 := #[.int .u64 0, .int .u64 0]) (t1 := 135) (f := 1) (n := 7) (T := fun w' => Below W.heap.size W w') (by kernel_rfl) (by kernel_rfl) (fun _ _ _ _ _ h => h) (fun _ _ h hb => ⟨At4.below h.1 hb, Room.below h.2 hb⟩) ?_ (stable_below W) hHeld (unhide HB) (by simp) ?_
  · intro a w K h
    unfold wpOp
    go_simp
    exact Or.inl h
  clear hHeld
  refine woA 0 6 ?_
  refine woA 1 7 ?_
  refine woA 3 9 ?_
  refine woA 4 10 ?_
  refine woA 5 11 ?_
  refine wo_call (c := 2) (o := { dst := some 8, op := _, type := _, pos := _, after := _, guard := _ }) rfl (by kernel_rfl) (by kernel_rfl) (fun u hSu hTu Kk hKk => ?_)
  go_simp
  refine (unhide HO _).mono ?_
  rintro _ wn ⟨rfl, hbl⟩
  have HTn := hide (bthen hTu hbl)
  clear hTu hSu
  (try go_wp2_with fail)
  refine hKk.out _ _ (fun w' => Below W.heap.size W w') (by assumption) (stable_below W) (unhide HTn) ?_
  clear hKk Kk HTn
  (try simp only [Act.put, List.setIfInBounds_toArray, List.set_cons_zero, List.set_cons_succ])
  refine wo_call (c := 6) (o := { dst := some 12, op := _, type := _, pos := _, after := _, guard := _ }) rfl (by kernel_rfl) (by kernel_rfl) (fun u hSu hTu Kk hKk => ?_)
  go_simp
  refine (unhide HL _).mono ?_
  rintro _ wn ⟨rfl, hbl⟩
  have HTn := hide (bthen hTu hbl)
  clear hTu hSu
  (try go_wp2_with fail)
  refine hKk.out _ _ (fun w' => Below W.heap.size W w') (by assumption) (stable_below W) (unhide HTn) ?_
  clear hKk Kk HTn
  (try simp only [Act.put, List.setIfInBounds_toArray, List.set_cons_zero, List.set_cons_succ])
  refine wo_fin (by kernel_rfl) (fun wf b1 hSu hTu k1 => ?_)
  (try simp only [Act.put, List.setIfInBounds_toArray, List.set_cons_zero, List.set_cons_succ])
  unfold ptr
  have zb := k1.base
  have HRm := hide (fresh_room2 k1)
  obtain ⟨⟨v0, c0⟩, f0⟩ := (unhide HRm) 0 (by omega)
  obtain ⟨⟨v1, c1⟩, f1⟩ := (unhide HRm) 1 (by omega)
  refine lstm 9 255 (by kernel_rfl) ?_
  refine rdA 8 511 (fun Kk hKk => ?_)
  go_simp
  refine hKk.out _ _ ?_ (fun hHeld => ?_)
  · (try dsimp only)
    exact ⟨At4.set2 hSu.1 (by omega) _ _, (hSu.2.off (by omega) _ _).off (by omega) _ _⟩
  clear hKk Kk
  (try simp only [Act.put, List.setIfInBounds_toArray, List.set_cons_zero, List.set_cons_succ])
  refine wpAnyH_done (by kernel_rfl) ?_ _
  have HB := hide (bset2 (c := b1) hTu (by omega) (.int .u64 h') (.int .u64 l'))
  have H2 := hide (at2_set2 (unhide HRm) (.int .u64 h') (.int .u64 l'))
  have HA := hide hHeld.1
  have HR2 := hide hHeld.2
  clear hHeld hSu hTu k1 c0 c1 f0 f1 HRm
  generalize (wf.setCell ⟨b1, 0, none⟩ (.int .u64 h')).setCell ⟨b1, 1, none⟩ (.int .u64 l') = wx at *
  obtain ⟨c0, c1⟩ := unhide H2
  obtain ⟨d0, d1, d2, d3⟩ := unhide HA
  go_wp2_with fail
  clear c0 c1 d0 d1 d2 d3
  refine (unhide HR _).mono ?_
  rintro _ wy ⟨rfl, hb⟩
  have HB := hide (bthen (unhide HB) hb)
  have HR2 := hide ((unhide HR2).below hb)
  clear hb H2 HA
  obtain ⟨⟨u0, c0⟩, f0⟩ := (unhide HR2) 0 (by omega)
  obtain ⟨⟨u1, c1⟩, f1⟩ := (unhide HR2) 1 (by omega)
  have zy := lt_of_cell c0
  go_wp2
  clear c0 c1
  have HB := hide (balloc (bset2 (unhide HB) (show W.heap.size ≤ W.heap.size + 1 by omega) (.int .u64 h'') (.int .u64 l'')) (.cells #[.int .u64 h'', .int .u64 l''] 135))
  have H2 := hide ((at2_set2 (unhide HR2) (.int .u64 h'') (.int .u64 l'')).below (below1 _ (.cells #[.int .u64 h'', .int .u64 l''] 135)))
  generalize ((wy.setCell ⟨W.heap.size + 1, 0, none⟩ (.int .u64 h'')).setCell ⟨W.heap.size + 1, 1, none⟩ (.int .u64 l'')).alloc (.cells #[.int .u64 h'', .int .u64 l''] 135) = wz at *
  obtain ⟨c0, c1⟩ := unhide H2
  exact bodyPost_ret (v := .agg #[.int .u64 h'', .int .u64 l'']) (by simp [results, Tryz.results247, go_sem, c0, c1]) rfl ⟨rfl, unhide HB⟩
set_option maxHeartbeats 4000000 in
set_option maxRecDepth 100000 in
theorem amount_lo {K X S h l h' l' h'' l'' E : Int} {n t : Bool} (W : World) (HO : Ct 161 #[.int .u64 S] (.agg #[.int .u64 h, .int .u64 l])) (g : ¬ 64 < X) (HL : Ct 234 #[.agg #[.int .u64 h, .int .u64 l], .int .i64 X] (.agg #[.int .u64 h', .int .u64 l'])) (kx : IntKind.i64.wrap (-X) = E) (HR : Ct 262 #[.agg #[.int .u64 h', .int .u64 l'], .int .i64 E] (.tuple #[.agg #[.int .u64 h'', .int .u64 l''], .bool t])) :
    Calls Tryz.prog 247 #[.agg #[.bool n, .int .i64 K, .int .i64 X, .int .u64 S]] W fun r W' => r = .returned (.agg #[.int .u64 h'', .int .u64 l'']) ∧ Below W.heap.size W W' := by
  go_enter Tryz.func247, Tryz.ntmps247
  go_wp2_with fail
  have HB := hide (below2 W (.cells #[.bool n, .int .i64 K, .int .i64 X, .int .u64 S] 37) (.cells #[.int .u64 0, .int .u64 0] 135)).drew
  have HA := hide ((at4_new2a W (.bool n) (.int .i64 K) (.int .i64 X) (.int .u64 S) 37 (.cells #[.int .u64 0, .int .u64 0] 135)).below ((Below.refl _ _).drew))
  have HR2 : Hid (Room (W.heap.size + 1) 2 ((W.alloc (.cells #[.bool n, .int .i64 K, .int .i64 X, .int .u64 S] 37)).alloc (.cells #[.int .u64 0, .int .u64 0] 135)).drew) := by
    intro o ho
    match o, ho with
    | 0, _ | 1, _ => simp [go_sem]
  refine wp_region_held_drew (S := fun w' => (w'.cell? ⟨W.heap.size, 0, none⟩ = some (.bool n) ∧ w'.cell? ⟨W.heap.size, 1, none⟩ = some (.int .i64 K) ∧ w'.cell? ⟨W.heap.size, 2, none⟩ = some (.int .i64 X) ∧ w'.cell? ⟨W.heap.size, 3, none⟩ = some (.int .u64 S)) ∧ Room (W.heap.size + 1) 2 w') (by kernel_rfl) ?_ (fun hHeld => ?_)
  · (try dsimp only)
    exact ⟨unhide HA, unhide HR2⟩
  refine wo_start (N := W.heap.size + 2) (i1 := 7) (d1 := 3) (v1 := #[.int .u64 0, .int .u64 0]) (t1 := 135) (f := 1) (n := 7) (T := fun w' => Below W.heap.size W w') (by kernel_rfl) (by kernel_rfl) (fun _ _ _ _ _ h => h) (fun _ _ h hb => ⟨At4.below h.1 hb, Room.below h.2 hb⟩) ?_ (stable_below W) hHeld (unhide HB) (by simp) ?_
  · intro a w K h
    unfold wpOp
    go_simp
    exact Or.inl h
  clear hHeld
  refine woA 0 6 ?_
  refine woA 1 7 ?_
  refine woA 3 9 ?_
  refine woA 4 10 ?_
  refine woA 5 11 ?_
  refine wo_call (c := 2) (o := { dst := some 8, op := _, type := _, pos := _, after := _, guard := _ }) rfl (by kernel_rfl) (by kernel_rfl) (fun u hSu hTu Kk hKk => ?_)
  go_simp
  refine (unhide HO _).mono ?_
  rintro _ wn ⟨rfl, hbl⟩
  have HTn := hide (bthen hTu hbl)
  clear hTu hSu
  (try go_wp2_with fail)
  refine hKk.out _ _ (fun w' => Below W.heap.size W w') (by assumption) (stable_below W) (unhide HTn) ?_
  clear hKk Kk HTn
  (try simp only [Act.put, List.setIfInBounds_toArray, List.set_cons_zero, List.set_cons_succ])
  refine wo_call (c := 6) (o := { dst := some 12, op := _, type := _, pos := _, after := _, guard := _ }) rfl (by kernel_rfl) (by kernel_rfl) (fun u hSu hTu Kk hKk => ?_)
  go_simp
  refine (unhide HL _).mono ?_
  rintro _ wn ⟨rfl, hbl⟩
  have HTn := hide (bthen hTu hbl)
  clear hTu hSu
  (try go_wp2_with fail)
  refine hKk.out _ _ (fun w' => Below W.heap.size W w') (by assumption) (stable_below W) (unhide HTn) ?_
  clear hKk Kk HTn
  (try simp only [Act.put, List.setIfInBounds_toArray, List.set_cons_zero, List.set_cons_succ])
  refine wo_fin (by kernel_rfl) (fun wf b1 hSu hTu k1 => ?_)
  (try simp only [Act.put, List.setIfInBounds_toArray, List.set_cons_zero, List.set_cons_succ])
  unfold ptr
  have zb := k1.base
  have HRm := hide (fresh_room2 k1)
  obtain ⟨⟨v0, c0⟩, f0⟩ := (unhide HRm) 0 (by omega)
  obtain ⟨⟨v1, c1⟩, f1⟩ := (unhide HRm) 1 (by omega)
  refine lstm 9 255 (by kernel_rfl) ?_
  refine rdA 8 511 (fun Kk hKk => ?_)
  go_simp
  refine hKk.out _ _ ?_ (fun hHeld => ?_)
  · (try dsimp only)
    exact ⟨At4.set2 hSu.1 (by omega) _ _, (hSu.2.off (by omega) _ _).off (by omega) _ _⟩
  clear hKk Kk
  (try simp only [Act.put, List.setIfInBounds_toArray, List.set_cons_zero, List.set_cons_succ])
  refine wpAnyH_done (by kernel_rfl) ?_ _
  have HB := hide (bset2 (c := b1) hTu (by omega) (.int .u64 h') (.int .u64 l'))
  have H2 := hide (at2_set2 (unhide HRm) (.int .u64 h') (.int .u64 l'))
  have HA := hide hHeld.1
  have HR2 := hide hHeld.2
  clear hHeld hSu hTu k1 c0 c1 f0 f1 HRm
  generalize (wf.setCell ⟨b1, 0, none⟩ (.int .u64 h')).setCell ⟨b1, 1, none⟩ (.int .u64 l') = wx at *
  obtain ⟨c0, c1⟩ := unhide H2
  obtain ⟨d0, d1, d2, d3⟩ := unhide HA
  go_wp2_with fail
  clear c0 c1 d0 d1 d2 d3
  refine (unhide HR _).mono ?_
  rintro _ wy ⟨rfl, hb⟩
  have HB := hide (bthen (unhide HB) hb)
  have HR2 := hide ((unhide HR2).below hb)
  clear hb H2 HA
  obtain ⟨⟨u0, c0⟩, f0⟩ := (unhide HR2) 0 (by omega)
  obtain ⟨⟨u1, c1⟩, f1⟩ := (unhide HR2) 1 (by omega)
  have zy := lt_of_cell c0
  go_wp2
  clear c0 c1
  have HB := hide (balloc (bset2 (unhide HB) (show W.heap.size ≤ W.heap.size + 1 by omega) (.int .u64 h'') (.int .u64 l'')) (.cells #[.int .u64 h'', .int .u64 l''] 135))
  have H2 := hide ((at2_set2 (unhide HR2) (.int .u64 h'') (.int .u64 l'')).below (below1 _ (.cells #[.int .u64 h'', .int .u64 l''] 135)))
  generalize ((wy.setCell ⟨W.heap.size + 1, 0, none⟩ (.int .u64 h'')).setCell ⟨W.heap.size + 1, 1, none⟩ (.int .u64 l'')).alloc (.cells #[.int .u64 h'', .int .u64 l''] 135) = wz at *
  obtain ⟨c0, c1⟩ := unhide H2
  exact bodyPost_ret (v := .agg #[.int .u64 h'', .int .u64 l'']) (by simp [results, Tryz.results247, go_sem, c0, c1]) rfl ⟨rfl, unhide HB⟩
end Go.Proofs.YtpbgpdmffejdgaaGreatDoor
