/- Set2, ExA, WhA, WhB, WhE, NuK. -/
import Derived.Test.YtpbgpdmffejdgabGreatDoorS01
import Derived.Test.YtpbgpdmffejdgabGreatDoorS08
import Derived.Test.YtpbgpdmffejdgabGreatDoorS10
import Derived.Test.YtpbgpdmffejdgabGreatDoorS12
import Derived.Test.YtpbgpdmffejdgabGreatDoorS16
import Derived.Test.YtpbgpdmffejdgabGreatDoorS17
import Derived.Test.YtpbgpdmffejdgabGreatDoorS19
namespace Go.Proofs.YtpbgpdmffejdgabGreatDoor
open Go.RowKit
theorem room2_new (W : World) (v0 v1 : Value) (t : TypeId) : Room W.heap.size 2 (W.alloc (.cells #[v0, v1] t)) := by
  intro o ho
  match o, ho with
  | 0, _ | 1, _ => simp [go_sem]
theorem Room.set2 {b : Nat} {w : World} (h : Room b 2 w) (v0 v1 : Value) : Room b 2 ((w.setCell ⟨b, 0, none⟩ v0).setCell ⟨b, 1, none⟩ v1) := (h.set _ _).set _ _
theorem at2_new (w : World) (x y : Value) (t : TypeId) : At2 w.heap.size x y (w.alloc (.cells #[x, y] t)) := by unfold At2; simp [go_sem]
theorem at2_set2 {b : Nat} {w : World} (h : Room b 2 w) (v0 v1 : Value) : At2 b v0 v1 ((w.setCell ⟨b, 0, none⟩ v0).setCell ⟨b, 1, none⟩ v1) := by
  obtain ⟨⟨u0, h0⟩, _⟩ := h 0 (by omega)
  obtain ⟨⟨u1, h1⟩, _⟩ := (h.set 0 v0) 1 (by omega)
  exact ⟨set_off _ (by omega) (World.cell?_setCell_same _ _ _ h0), World.cell?_setCell_same _ _ _ h1⟩
theorem bset2 {a b : World} {c : Nat} (h : Below a.heap.size a b) (hc : a.heap.size ≤ c) (v0 v1 : Value) : Below a.heap.size a ((b.setCell ⟨c, 0, none⟩ v0).setCell ⟨c, 1, none⟩ v1) := bset (bset h _ hc _ _) _ hc _ _
theorem At4.set2 {b c : Nat} {x y z u : Value} {w : World} (h : At4 b x y z u w) (hc : b ≠ c) (v0 v1 : Value) : At4 b x y z u ((w.setCell ⟨c, 0, none⟩ v0).setCell ⟨c, 1, none⟩ v1) := (h.set hc _ _).set hc _ _
end Go.Proofs.YtpbgpdmffejdgabGreatDoor
namespace Go.Proofs.YtpbgpdmffejdgabGreatDoor
open Go.RowKit
open Go.Proofs.YtpbgpdmffejdgabGreatDoor.W

/-- The sum's variables: both operands, both numbers. -/
structure ESt (W : World) (b1 b2 : Nat) (n1 n2 : Bool) (K1 X1 S1 K2 X2 S2 : Int) (s1 s2 : Value) (x y : Nat) (w : World) : Prop where
  a1 : At4 W.heap.size (.bool n1) (.int .i64 K1) (.int .i64 X1) (.int .u64 S1) w
  a2 : At4 (W.heap.size + 1) (.bool n2) (.int .i64 K2) (.int .i64 X2) (.int .u64 S2) w
  c1 : w.cell? ⟨b1, 0, none⟩ = some s1
  c2 : w.cell? ⟨b2, 0, none⟩ = some s2
  m1 : IsNat w s1 x
  m2 : IsNat w s2 y
  bel : Below W.heap.size W w
theorem ESt.below {W : World} {b1 b2 : Nat} {n1 n2 : Bool} {K1 X1 S1 K2 X2 S2 : Int} {s1 s2 : Value} {x y : Nat} {w w' : World} (h : ESt W b1 b2 n1 n2 K1 X1 S1 K2 X2 S2 s1 s2 x y w) (hb : Below w.heap.size w w') : ESt W b1 b2 n1 n2 K1 X1 S1 K2 X2 S2 s1 s2 x y w' :=
  { a1 := h.a1.below hb, a2 := h.a2.below hb, c1 := keep1 hb (lt_of_cell h.c1) h.c1, c2 := keep1 hb (lt_of_cell h.c2) h.c2, m1 := h.m1.below hb, m2 := h.m2.below hb, bel := bthen h.bel hb }

end Go.Proofs.YtpbgpdmffejdgabGreatDoor
namespace Go.Proofs.YtpbgpdmffejdgabGreatDoor
open Go.RowKit
open Go.Proofs.YtpbgpdmffejdgabGreatDoor.W

theorem lstm {P : Program} {ops : Array Oper} {Q : Exit → Act → World → Prop} {md : Region.Mode} {S : World → Prop} (n m : Nat) {fuel : Nat} {listed : Array Bool} {a : Act} {w : World} (h : listed = lst n m) (k : wpAnyH P md ops Q S fuel (lst n m) a w) : wpAnyH P md ops Q S fuel listed a w := h ▸ k
theorem fresh_room2 {N b : Nat} {v0 v1 : Value} {w : World} (h : Fresh N #[v0, v1] b w) : Room b 2 w := fun o ho => by
  refine ⟨?_, h.thawed o⟩
  match o, ho with
  | 0, _ => exact ⟨_, h.cell 0 _ rfl⟩
  | 1, _ => exact ⟨_, h.cell 1 _ rfl⟩
theorem bset3 {a b : World} {c : Nat} (h : Below a.heap.size a b) (hc : a.heap.size ≤ c) (v0 v1 v2 : Value) : Below a.heap.size a (((b.setCell ⟨c, 0, none⟩ v0).setCell ⟨c, 1, none⟩ v1).setCell ⟨c, 2, none⟩ v2) := bset (bset2 h hc _ _) _ hc _ _
theorem At2.set3 {b c : Nat} {x y : Value} {w : World} (h : At2 b x y w) (hc : b ≠ c) (v0 v1 v2 : Value) : At2 b x y (((w.setCell ⟨c, 0, none⟩ v0).setCell ⟨c, 1, none⟩ v1).setCell ⟨c, 2, none⟩ v2) := ((h.set hc _ _).set hc _ _).set hc _ _
theorem Room.off {b c n : Nat} {w : World} (h : Room b n w) (hc : b ≠ c) (o' : Nat) (v : Value) : Room b n (w.setCell ⟨c, o', none⟩ v) := fun o ho => by
  obtain ⟨⟨u, h1⟩, h2⟩ := h o ho
  exact ⟨⟨u, keep_set c o' v hc h1⟩, by rw [frozen_set]; exact h2⟩
set_option maxRecDepth 100000 in
set_option maxHeartbeats 2000000 in
theorem broken_l {K1 X1 S1 h l h' l' E : Int} {n1 t : Bool} (W : World) (HO : Ct 101 #[.int .u64 S1] (.agg #[.int .u64 h, .int .u64 l])) (kx : IntKind.i64.wrap (-X1) = E) (HR : Ct 161 #[.agg #[.int .u64 h, .int .u64 l], .int .i64 E] (.tuple #[.agg #[.int .u64 h', .int .u64 l'], .bool t])) :
    Calls Tryz.prog 139 #[.agg #[.bool n1, .int .i64 K1, .int .i64 X1, .int .u64 S1]] W fun r W' => r = .returned (.bool t) ∧ Below W.heap.size W W' := by
  go_enter Tryz.func139, Tryz.ntmps139
  go_wp2_with fail
  have HB := hide (below1 W (.cells #[.bool n1, .int .i64 K1, .int .i64 X1, .int .u64 S1] 82)).drew
  have HA := hide ((at4_new W (.bool n1) (.int .i64 K1) (.int .i64 X1) (.int .u64 S1) 82).below ((Below.refl _ _).drew))
  refine wp_region_held_drew (S := fun w' => (w'.cell? ⟨W.heap.size, 0, none⟩ = some (.bool n1) ∧ w'.cell? ⟨W.heap.size, 1, none⟩ = some (.int .i64 K1) ∧ w'.cell? ⟨W.heap.size, 2, none⟩ = some (.int .i64 X1) ∧ w'.cell? ⟨W.heap.size, 3, none⟩ = some (.int .u64 S1))) (by kernel_rfl) ?_ (fun hHeld => ?_)
  · (try dsimp only)
    exact unhide HA
  refine wo_start (N := W.heap.size + 1) (i1 := 10) (d1 := 3) (v1 := #[.int .u64 0, .int .u64 0]) (t1 := 86) (f := 2) (n := 10) (T := fun w' => Below W.heap.size W w') (by kernel_rfl) (by kernel_rfl) (fun _ _ _ _ _ h => h) (stable_at4 _ _ _ _ _) ?_ (stable_below W) hHeld (unhide HB) (by simp) ?_
  · intro a w K h
    unfold wpOp
    go_simp
    exact Or.inl h
  clear hHeld
  refine woA 0 6 ?_
  refine woA 1 7 ?_
  refine woA 3 9 ?_
  refine woA 4 10 ?_
  refine woA 5 11 ?_
  refine wo_call (c := 2) (o := { dst := some 8, op := _, type := _, pos := _, after := _, guard := _ }) rfl (by kernel_rfl) (by kernel_rfl) (fun u hSu hTu Kk hKk => ?_)
  go_simp
  refine (unhide HO _).mono ?_
  rintro _ wn ⟨rfl, hbl⟩
  have HTn := hide (bthen hTu hbl)
  clear hTu hSu
  (try go_wp2_with fail)
  refine hKk.out _ _ (fun w' => Below W.heap.size W w') (by assumption) (stable_below W) (unhide HTn) ?_
  clear hKk Kk HTn
  (try simp only [Act.put, List.setIfInBounds_toArray, List.set_cons_zero, List.set_cons_succ])
  refine wo_call (c := 6) (o := { dst := some 12, op := _, type := _, pos := _, after := _, guard := _ }) rfl (by kernel_rfl) (by kernel_rfl) (fun u hSu hTu Kk hKk => ?_)
  go_simp
  refine (unhide HR _).mono ?_
  rintro _ wn ⟨rfl, hbl⟩
  have HTn := hide (bthen hTu hbl)
  clear hTu hSu
  (try go_wp2_with fail)
  refine hKk.out _ _ (fun w' => Below W.heap.size W w') (by assumption) (stable_below W) (unhide HTn) ?_
  clear hKk Kk HTn
  (try simp only [Act.put, List.setIfInBounds_toArray, List.set_cons_zero, List.set_cons_succ])
  refine woA 7 5 ?_
  refine woA 8 13 ?_
  refine woA 9 14 ?_
  refine wo_fin (by kernel_rfl) (fun wf b1 hSu hTu k1 => ?_)
  (try simp only [Act.put, List.setIfInBounds_toArray, List.set_cons_zero, List.set_cons_succ])
  unfold ptr
  have zb := k1.base
  have HRm := hide (fresh_room2 k1)
  obtain ⟨⟨v0, c0⟩, f0⟩ := (unhide HRm) 0 (by omega)
  obtain ⟨⟨v1, c1⟩, f1⟩ := (unhide HRm) 1 (by omega)
  refine lstm 13 2047 (by kernel_rfl) ?_
  refine rdA 11 4095 (fun Kk hKk => ?_)
  go_simp
  refine hKk.out _ _ ?_ (fun hHeld => ?_)
  · (try dsimp only)
    exact At4.set2 hSu (by omega) _ _
  clear hKk Kk
  (try simp only [Act.put, List.setIfInBounds_toArray, List.set_cons_zero, List.set_cons_succ])
  refine tkA 12 4 8191 ?_
  refine wpAnyH_done (by kernel_rfl) ?_ _
  have HB := hide (bset2 (c := b1) hTu (by omega) (.int .u64 h') (.int .u64 l'))
  clear hHeld hSu hTu k1 c0 c1 f0 f1
  generalize (wf.setCell ⟨b1, 0, none⟩ (.int .u64 h')).setCell ⟨b1, 1, none⟩ (.int .u64 l') = wx at *
  go_wp2_with fail
  go_ret
  exact ⟨rfl, unhide HB⟩

end Go.Proofs.YtpbgpdmffejdgabGreatDoor
namespace Go.Proofs.YtpbgpdmffejdgabGreatDoor
open Go.RowKit
open Go.Proofs.YtpbgpdmffejdgabGreatDoor.W

set_option maxRecDepth 100000 in
set_option maxHeartbeats 2000000 in
theorem split_l {K1 X1 S1 h l h' l' E E1 n a o : Int} {n1 t : Bool} (W : World) (HO : Ct 101 #[.int .u64 S1] (.agg #[.int .u64 h, .int .u64 l])) (kx : IntKind.i64.wrap (-X1) = E) (ke : IntKind.i64.wrap (E - 1) = E1) (HR : Ct 161 #[.agg #[.int .u64 h, .int .u64 l], .int .i64 E1] (.tuple #[.agg #[.int .u64 h', .int .u64 l'], .bool t])) (kn : l' / 2 = n) (ka : bits .and .u64 l' 1 = a) (ko : bits .and .u64 n 1 = o) :
    Calls Tryz.prog 140 #[.agg #[.bool n1, .int .i64 K1, .int .i64 X1, .int .u64 S1]] W fun r W' => r = .returned (.tuple #[.int .u64 n, .agg #[.bool (a == 1), .bool t, .bool (o == 1)]]) ∧ Below W.heap.size W W' := by
  go_enter Tryz.func140, Tryz.ntmps140
  go_wp2_with fail
  have HB := hide (below2 W (.cells #[.bool n1, .int .i64 K1, .int .i64 X1, .int .u64 S1] 82) (.cells #[.bool false, .bool false, .bool false] 79)).drew
  have HA := hide ((at4_new2a W (.bool n1) (.int .i64 K1) (.int .i64 X1) (.int .u64 S1) 82 (.cells #[.bool false, .bool false, .bool false] 79)).below ((Below.refl _ _).drew))
  have HR3 : Hid (Room (W.heap.size + 1) 3 ((W.alloc (.cells #[.bool n1, .int .i64 K1, .int .i64 X1, .int .u64 S1] 82)).alloc (.cells #[.bool false, .bool false, .bool false] 79)).drew) := by
    intro o ho
    match o, ho with
    | 0, _ | 1, _ | 2, _ => simp [go_sem]
  refine wp_region_held_drew (S := fun w' => (w'.cell? ⟨W.heap.size, 0, none⟩ = some (.bool n1) ∧ w'.cell? ⟨W.heap.size, 1, none⟩ = some (.int .i64 K1) ∧ w'.cell? ⟨W.heap.size, 2, none⟩ = some (.int .i64 X1) ∧ w'.cell? ⟨W.heap.size, 3, none⟩ = some (.int .u64 S1)) ∧ Room (W.heap.size + 1) 3 w') (by kernel_rfl) ?_ (fun hHeld => ?_)
  · (try dsimp only)
    exact ⟨unhide HA, unhide HR3⟩
  refine wo_start (N := W.heap.size + 2) (i1 := 11) (d1 := 4) (v1 := #[.int .u64 0, .int .u64 0]) (t1 := 86) (f := 2) (n := 11) (T := fun w' => Below W.heap.size W w') (by kernel_rfl) (by kernel_rfl) (fun _ _ _ _ _ h => h) (fun _ _ h hb => ⟨At4.below h.1 hb, Room.below h.2 hb⟩) ?_ (stable_below W) hHeld (unhide HB) (by simp) ?_
  · intro a w K h
    unfold wpOp
    go_simp
    exact Or.inl h
  clear hHeld
  refine woA 0 7 ?_
  refine woA 1 8 ?_
  refine woA 3 10 ?_
  refine woA 4 11 ?_
  refine woA 5 12 ?_
  refine woA 6 13 ?_
  refine wo_call (c := 2) (o := { dst := some 9, op := _, type := _, pos := _, after := _, guard := _ }) rfl (by kernel_rfl) (by kernel_rfl) (fun u hSu hTu Kk hKk => ?_)
  go_simp
  refine (unhide HO _).mono ?_
  rintro _ wn ⟨rfl, hbl⟩
  have HTn := hide (bthen hTu hbl)
  clear hTu hSu
  (try go_wp2_with fail)
  refine hKk.out _ _ (fun w' => Below W.heap.size W w') (by assumption) (stable_below W) (unhide HTn) ?_
  clear hKk Kk HTn
  (try simp only [Act.put, List.setIfInBounds_toArray, List.set_cons_zero, List.set_cons_succ])
  refine wo_call (c := 7) (o := { dst := some 14, op := _, type := _, pos := _, after := _, guard := _ }) rfl (by kernel_rfl) (by kernel_rfl) (fun u hSu hTu Kk hKk => ?_)
  go_simp
  refine (unhide HR _).mono ?_
  rintro _ wn ⟨rfl, hbl⟩
  have HTn := hide (bthen hTu hbl)
  clear hTu hSu
  (try go_wp2_with fail)
  refine hKk.out _ _ (fun w' => Below W.heap.size W w') (by assumption) (stable_below W) (unhide HTn) ?_
  clear hKk Kk HTn
  (try simp only [Act.put, List.setIfInBounds_toArray, List.set_cons_zero, List.set_cons_succ])
  refine woA 8 6 ?_
  refine woA 9 15 ?_
  refine woA 10 16 ?_
  refine wo_fin (by kernel_rfl) (fun wf b1 hSu hTu k1 => ?_)
  (try simp only [Act.put, List.setIfInBounds_toArray, List.set_cons_zero, List.set_cons_succ])
  unfold ptr
  have zb := k1.base
  have HRm := hide (fresh_room2 k1)
  obtain ⟨⟨v0, c0⟩, f0⟩ := (unhide HRm) 0 (by omega)
  obtain ⟨⟨v1, c1⟩, f1⟩ := (unhide HRm) 1 (by omega)
  refine lstm 14 4095 (by kernel_rfl) ?_
  refine rdA 12 8191 (fun Kk hKk => ?_)
  go_simp
  refine hKk.out _ _ ?_ (fun hHeld => ?_)
  · (try dsimp only)
    exact ⟨At4.set2 hSu.1 (by omega) _ _, (hSu.2.off (by omega) _ _).off (by omega) _ _⟩
  clear hKk Kk
  (try simp only [Act.put, List.setIfInBounds_toArray, List.set_cons_zero, List.set_cons_succ])
  refine tkA 13 5 16383 ?_
  refine wpAnyH_done (by kernel_rfl) ?_ _
  have HB := hide (bset2 (c := b1) hTu (by omega) (.int .u64 h') (.int .u64 l'))
  have H2 := hide (at2_set2 (unhide HRm) (.int .u64 h') (.int .u64 l'))
  have HR3 := hide hHeld.2
  clear hHeld hSu hTu k1 c0 c1 f0 f1 HA HRm
  generalize (wf.setCell ⟨b1, 0, none⟩ (.int .u64 h')).setCell ⟨b1, 1, none⟩ (.int .u64 l') = wx at *
  obtain ⟨c0, c1⟩ := unhide H2
  go_wp2_with fail
  clear c0 c1
  have HB := hide (unhide HB).drew
  have H2 := hide ((unhide H2).below ((Below.refl _ _).drew))
  have HR3 := hide ((unhide HR3).below ((Below.refl _ _).drew))
  refine wp_region_held_drew (S := fun w' => (w'.cell? ⟨b1, 0, none⟩ = some (.int .u64 h') ∧ w'.cell? ⟨b1, 1, none⟩ = some (.int .u64 l')) ∧ Room (W.heap.size + 1) 3 w') (by kernel_rfl) ?_ (fun hHeld => ?_)
  · (try dsimp only)
    exact ⟨unhide H2, unhide HR3⟩
  refine lst0 12 (by kernel_rfl) ?_
  refine tkA 0 20 1 ?_
  refine tkA 1 21 3 ?_
  refine tkA 2 22 7 ?_
  refine tkA 3 23 15 ?_
  refine tkA 4 24 31 ?_
  refine tkA 5 25 63 ?_
  refine tkA 6 26 127 ?_
  refine tkA 7 27 255 ?_
  refine tkA 8 28 511 ?_
  refine tkA 9 29 1023 ?_
  refine tkA 10 2 2047 ?_
  refine rdA 11 4095 (fun Kk hKk => ?_)
  obtain ⟨⟨v0, c0⟩, r0⟩ := hHeld.2 0 (by omega)
  obtain ⟨⟨v1, c1⟩, r1⟩ := hHeld.2 1 (by omega)
  obtain ⟨⟨v2, c2⟩, r2⟩ := hHeld.2 2 (by omega)
  generalize wx.drew = wy at *
  go_simp
  refine hKk.out _ _ ?_ (fun hHeld => ?_)
  · (try dsimp only)
    exact ⟨At2.set3 hHeld.1 (by omega) _ _ _, ((hHeld.2.set _ _).set _ _).set _ _⟩
  clear hKk Kk
  (try simp only [List.setIfInBounds_toArray, List.set_cons_zero, List.set_cons_succ])
  refine wpAnyH_done (by kernel_rfl) ?_ _
  go_wp2
  exact bodyPost_ret (v := .tuple #[.int .u64 n, .agg #[.bool (a == 1), .bool t, .bool (o == 1)]]) (by simp (maxDischargeDepth := 8) [results, Tryz.results140, go_sem, c0, c1, c2]) rfl ⟨rfl, bset3 (unhide HB) (show W.heap.size ≤ W.heap.size + 1 by omega) _ _ _⟩

end Go.Proofs.YtpbgpdmffejdgabGreatDoor
namespace Go.Proofs.YtpbgpdmffejdgabGreatDoor
open Go.RowKit
open Go.Proofs.YtpbgpdmffejdgabGreatDoor.W

/-- The variables of Down: the unit, the quotient, the rest, the result. -/
structure DnSt (W : World) (N bu bq br : Nat) (su sq sr : Value) (u q r : Nat) (w : World) : Prop where
  cu : w.cell? ⟨bu, 0, none⟩ = some su
  cq : w.cell? ⟨bq, 0, none⟩ = some sq
  cr : w.cell? ⟨br, 0, none⟩ = some sr
  nu : IsNat w su u
  nq : IsNat w sq q
  nr : IsNat w sr r
  cv : w.cell? ⟨N, 0, none⟩ = some (.slice none 0 0)
  fv : w.frozen? ⟨N, 0, none⟩ = false
  bel : Below W.heap.size W w
theorem DnSt.below {W : World} {N bu bq br : Nat} {su sq sr : Value} {u q r : Nat} {w w' : World} (h : DnSt W N bu bq br su sq sr u q r w) (hb : Below w.heap.size w w') : DnSt W N bu bq br su sq sr u q r w' :=
  { cu := keep1 hb (lt_of_cell h.cu) h.cu, cq := keep1 hb (lt_of_cell h.cq) h.cq, cr := keep1 hb (lt_of_cell h.cr) h.cr, nu := h.nu.below hb, nq := h.nq.below hb, nr := h.nr.below hb, cv := keep1 hb (lt_of_cell h.cv) h.cv, fv := (hb.frozen (lt_of_cell h.cv)).trans h.fv, bel := bthen h.bel hb }
end Go.Proofs.YtpbgpdmffejdgabGreatDoor
namespace Go.Proofs.YtpbgpdmffejdgabGreatDoor
open Go.RowKit

/-- How many operands there are. -/
def opn (d k : Int) : Int := if d = 0 then (if k ≤ 0 then 1 else 2) else if d = 2 then (if k ≤ 2 then 1 else 2) else if d = 3 then (if k ≤ 6 then 1 else 2) else if d = 1 then 2 else 1
set_option maxHeartbeats 4000000 in
set_option maxRecDepth 100000 in
theorem opn_w {f n d o k : Int} (h : d = 0 ∨ d = 1 ∨ d = 2 ∨ d = 3 ∨ d = 4 ∨ d = 5) : Ct 19 #[.agg #[.int .i64 f, .int .i64 n, .int .i64 d, .int .u8 o], .int .i64 k] (.int .i64 (opn d k)) := by
  refine hide (fun W => ?_)
  have HO := fun l a => one_l l a
  rcases h with rfl | rfl | rfl | rfl | rfl | rfl
  all_goals
    go_enter Tryz.func19, Tryz.ntmps19
    go_wp2_with fail
    try
      refine (unhide (HO _ _) _).mono ?_
      rintro _ w1 ⟨rfl, hb⟩
      have HB := hide (bthen (below1 _ _) hb)
      clear hb
      go_wp2_with fail
    all_goals
      go_ret
      first | exact ⟨by rfl, below1 _ _⟩ | exact ⟨by first | rfl | (unfold opn; simp <;> omega), unhide HB⟩
set_option maxHeartbeats 4000000 in
set_option maxRecDepth 100000 in
theorem kind_w {op f n d o k ti tu c : Int} (HF : Cm 8 #[.int .i64 op] (.tuple #[.agg #[.int .i64 f, .int .i64 n, .int .i64 d, .int .u8 o], .int .i64 k, .bool true])) (HT : Cm 9 #[.agg #[.int .i64 f, .int .i64 n, .int .i64 d, .int .u8 o], .int .i64 k] (.agg #[.int .u8 ti, .int .u8 tu])) (HO : Ct 19 #[.agg #[.int .i64 f, .int .i64 n, .int .i64 d, .int .u8 o], .int .i64 k] (.int .i64 c)) :
    Cm 5 #[.int .i64 op] (.tuple #[.int .u8 ti, .int .i64 c, .int .u8 tu, .bool true]) := by
  refine hide (fun W m => ?_)
  have HM := hide m
  clear m
  have HB := hide (Below.refl W.heap.size W)
  go_enter Tryz.func5, Tryz.ntmps5
  go_wp2_with fail
  refine (unhide HF _ (unhide HM)).mono ?_
  rintro _ w1 ⟨rfl, hb⟩
  have HB := hide (bthen (unhide HB) hb)
  have HM := hide ((unhide HM).below hb)
  clear hb
  have HB := hide (balloc (unhide HB) (.cells #[.int .i64 f, .int .i64 n, .int .i64 d, .int .u8 o] 32))
  have HG := hide (at4_new w1 (.int .i64 f) (.int .i64 n) (.int .i64 d) (.int .u8 o) 32)
  have HM := hide ((unhide HM).below (below1 w1 (.cells #[.int .i64 f, .int .i64 n, .int .i64 d, .int .u8 o] 32)))
  go_wp2_with fail
  refine (unhide HT _ (unhide HM)).mono ?_
  rintro _ w2 ⟨rfl, hb⟩
  have HB := hide (bthen (unhide HB) hb)
  have HM := hide ((unhide HM).below hb)
  have HG := hide ((unhide HG).below hb)
  clear hb
  have HB := hide (balloc (unhide HB) (.cells #[.int .u8 ti, .int .u8 tu] 36)).drew
  have HG := hide ((unhide HG).below (below1 w2 (.cells #[.int .u8 ti, .int .u8 tu] 36)).drew)
  have HM := hide ((unhide HM).below (below1 w2 (.cells #[.int .u8 ti, .int .u8 tu] 36)).drew)
  have H2 := hide ((at2_new w2 (.int .u8 ti) (.int .u8 tu) 36).below ((Below.refl _ _).drew))
  have HS := hide (And.intro (unhide H2) (unhide HG))
  go_wp2_with fail
  refine wp_region_held_drew (S := fun w' => (w'.cell? ⟨w2.heap.size, 0, none⟩ = some (.int .u8 ti) ∧ w'.cell? ⟨w2.heap.size, 1, none⟩ = some (.int .u8 tu)) ∧ (w'.cell? ⟨w1.heap.size, 0, none⟩ = some (.int .i64 f) ∧ w'.cell? ⟨w1.heap.size, 1, none⟩ = some (.int .i64 n) ∧ w'.cell? ⟨w1.heap.size, 2, none⟩ = some (.int .i64 d) ∧ w'.cell? ⟨w1.heap.size, 3, none⟩ = some (.int .u8 o))) (by kernel_rfl) ?_ (fun hHeld => ?_)
  · (try dsimp only)
    exact unhide HS
  refine lst0 11 (by kernel_rfl) ?_
  refine tkA 0 20 1 ?_
  refine tkA 1 21 3 ?_
  refine tkA 2 22 7 ?_
  refine tkA 3 23 15 ?_
  refine tkA 5 25 47 ?_
  refine tkA 6 26 111 ?_
  refine rdA 4 127 (fun Kk hKk => ?_)
  go_simp
  refine (unhide HO _).mono ?_
  rintro _ w3 ⟨rfl, hb⟩
  have HB := hide (bthen (unhide HB) hb)
  have HM := hide ((unhide HM).below hb)
  have HG := hide ((unhide HG).below hb)
  have H2 := hide ((unhide H2).below hb)
  clear hb
  have HS := hide (And.intro (unhide H2) (unhide HG))
  (try go_wp2_with fail)
  refine hKk.out _ _ ?_ (fun hHeld => ?_)
  · (try dsimp only)
    exact unhide HS
  clear hKk Kk
  (try simp only [List.setIfInBounds_toArray, List.set_cons_zero, List.set_cons_succ])
  refine tkA 7 2 255 ?_
  refine tkA 8 3 511 ?_
  refine tkA 9 4 1023 ?_
  refine tkA 10 5 2047 ?_
  refine wpAnyH_done (by kernel_rfl) ?_ _
  clear hHeld H2
  go_wp2_with fail
  exact bodyPost_ret (v := .tuple #[.int .u8 ti, .int .i64 c, .int .u8 tu, .bool true]) (by simp [results, Tryz.results5, go_sem]) rfl ⟨rfl, unhide HB⟩
set_option maxHeartbeats 4000000 in
set_option maxRecDepth 100000 in
theorem kind_no {op : Int} (HF : Cm 8 #[.int .i64 op] (.tuple #[.agg #[.int .i64 0, .int .i64 0, .int .i64 0, .int .u8 0], .int .i64 0, .bool false])) : Cm 5 #[.int .i64 op] (.tuple #[.int .u8 0, .int .i64 0, .int .u8 0, .bool false]) := by
  refine hide (fun W m => ?_)
  have HM := hide m
  clear m
  have HB := hide (Below.refl W.heap.size W)
  go_enter Tryz.func5, Tryz.ntmps5
  go_wp2_with fail
  refine (unhide HF _ (unhide HM)).mono ?_
  rintro _ w1 ⟨rfl, hb⟩
  have HB := hide (bthen (unhide HB) hb)
  have HM := hide ((unhide HM).below hb)
  clear hb
  have HB := hide (balloc (unhide HB) (.cells #[.int .i64 0, .int .i64 0, .int .i64 0, .int .u8 0] 32))
  go_wp2_with fail
  exact bodyPost_ret (v := .tuple #[.int .u8 0, .int .i64 0, .int .u8 0, .bool false]) (by simp [results, Tryz.results5, go_sem]) rfl ⟨rfl, unhide HB⟩
end Go.Proofs.YtpbgpdmffejdgabGreatDoor
