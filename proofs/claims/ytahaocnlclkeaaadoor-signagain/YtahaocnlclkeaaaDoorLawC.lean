/- The walk of SignAgain. -/
import Derived.Test.YtahaocnlclkeaaaDoorLawA
namespace Go.Proofs.YtahaocnlclkeaaaDoor
open Go.RowKit

def At3 (b : Nat) (x y z : Value) (w : World) : Prop := w.cell? ⟨b, 0, none⟩ = some x ∧ w.cell? ⟨b, 1, none⟩ = some y ∧ w.cell? ⟨b, 2, none⟩ = some z
theorem At3.below {b : Nat} {x y z : Value} {w w' : World} (h : At3 b x y z w) (hb : Below w.heap.size w w') : At3 b x y z w' :=
  have hz := lt_of_cell h.1
  ⟨keep1 hb hz h.1, keep1 hb hz h.2.1, keep1 hb hz h.2.2⟩
theorem at3_new (w : World) (x y z : Value) (t : TypeId) : At3 w.heap.size x y z (w.alloc (.cells #[x, y, z] t)) := by unfold At3; simp [go_sem]

set_option maxHeartbeats 4000000 in
set_option maxRecDepth 100000 in
theorem again_w {w x y z c d n a g : Int} (W : World) (HM : Hid (Mk W)) (HW : Cm 6 #[] (.bool true)) (H1 : Cm 10 #[.int .i64 w, .int .u64 x, .int .u64 y] (.int .u64 d)) (H2 : Cm 10 #[.int .i64 w, .int .u64 d, .int .u64 z] (.int .u64 c)) (H3 : Cm 10 #[.int .i64 w, .int .u64 x, .int .u64 z] (.int .u64 c)) (HN : Cm 9 #[.int .i64 w, .int .u64 x] (.int .u64 n)) (HA1 : Cm 8 #[.int .i64 w, .int .u64 n] (.int .u64 a)) (HA2 : Cm 8 #[.int .i64 w, .int .u64 x] (.int .u64 a)) (H4 : Cm 10 #[.int .i64 w, .int .u64 x, .int .u64 x] (.int .u64 g)) (HN2 : Cm 9 #[.int .i64 w, .int .u64 n] (.int .u64 g)) :
    Calls Tryd.prog 5 #[.int .i64 w, .agg #[.int .u64 x, .int .u64 y, .int .u64 z]] W fun r W' => r = .returned (.bool true) ∧ Below W.heap.size W W' := by
  go_enter Tryd.func5, Tryd.ntmps5
  go_wp2_with fail
  have HB := hide (below1 W (.cells #[.int .u64 x, .int .u64 y, .int .u64 z] 31))
  have HM := hide ((unhide HM).below (unhide HB))
  have HA := hide (at3_new W (.int .u64 x) (.int .u64 y) (.int .u64 z) 31)
  refine (unhide HW _ (unhide HM)).mono ?_
  rintro _ w1 ⟨rfl, hb⟩
  have HB := hide (bthen (unhide HB) hb)
  have HM := hide ((unhide HM).below hb)
  have HA := hide ((unhide HA).below hb)
  clear hb
  go_wp2_with fail
  have HB := hide ((unhide HB).drew)
  have HM := hide ((unhide HM).below ((Below.refl _ _).drew))
  have HA := hide ((unhide HA).below ((Below.refl _ _).drew))
  refine wp_region_held_drew (S := fun w' => w'.cell? ⟨W.heap.size, 0, none⟩ = some (.int .u64 x) ∧ w'.cell? ⟨W.heap.size, 1, none⟩ = some (.int .u64 y) ∧ w'.cell? ⟨W.heap.size, 2, none⟩ = some (.int .u64 z)) (by kernel_rfl) ?_ (fun hHeld => ?_)
  · (try dsimp only)
    exact unhide HA
  refine lst0 11 (by kernel_rfl) ?_
  refine tkA 0 8 1 ?_
  refine tkA 1 9 3 ?_
  refine tkA 2 10 7 ?_
  refine tkA 3 11 15 ?_
  refine tkA 4 12 31 ?_
  refine tkA 5 13 63 ?_
  refine tkA 7 15 191 ?_
  refine tkA 8 16 447 ?_
  refine rdA 6 511 (fun Kk hKk => ?_)
  go_simp
  refine (unhide H1 _ (unhide HM)).mono ?_
  rintro _ w2 ⟨rfl, hbl⟩
  have HB := hide (bthen (unhide HB) hbl)
  have HM := hide ((unhide HM).below hbl)
  have HA := hide ((unhide HA).below hbl)
  clear hbl
  (try go_wp2_with fail)
  refine hKk.out _ _ ?_ (fun hHeld => ?_)
  · (try dsimp only)
    exact unhide HA
  clear hKk Kk
  (try simp only [List.setIfInBounds_toArray, List.set_cons_zero, List.set_cons_succ])
  refine rdA 9 1023 (fun Kk hKk => ?_)
  go_simp
  refine (unhide H2 _ (unhide HM)).mono ?_
  rintro _ w3 ⟨rfl, hbl⟩
  have HB := hide (bthen (unhide HB) hbl)
  have HM := hide ((unhide HM).below hbl)
  have HA := hide ((unhide HA).below hbl)
  clear hbl
  (try go_wp2_with fail)
  refine hKk.out _ _ ?_ (fun hHeld => ?_)
  · (try dsimp only)
    exact unhide HA
  clear hKk Kk
  (try simp only [List.setIfInBounds_toArray, List.set_cons_zero, List.set_cons_succ])
  refine tkA 10 5 2047 ?_
  refine wpAnyH_done (by kernel_rfl) ?_ _
  go_wp2_with fail
  have HB := hide ((unhide HB).drew)
  have HM := hide ((unhide HM).below ((Below.refl _ _).drew))
  have HA := hide ((unhide HA).below ((Below.refl _ _).drew))
  refine wp_region_held_drew (S := fun w' => w'.cell? ⟨W.heap.size, 0, none⟩ = some (.int .u64 x) ∧ w'.cell? ⟨W.heap.size, 1, none⟩ = some (.int .u64 y) ∧ w'.cell? ⟨W.heap.size, 2, none⟩ = some (.int .u64 z)) (by kernel_rfl) ?_ (fun hHeld => ?_)
  · (try dsimp only)
    exact unhide HA
  refine lst0 37 (by kernel_rfl) ?_
  refine tkA 0 18 1 ?_
  refine tkA 1 19 3 ?_
  refine tkA 2 20 7 ?_
  refine tkA 3 21 15 ?_
  refine tkA 4 22 31 ?_
  refine tkA 5 23 63 ?_
  refine rdA 6 127 (fun Kk hKk => ?_)
  go_simp
  refine (unhide H3 _ (unhide HM)).mono ?_
  rintro _ w4 ⟨rfl, hbl⟩
  have HB := hide (bthen (unhide HB) hbl)
  have HM := hide ((unhide HM).below hbl)
  have HA := hide ((unhide HA).below hbl)
  clear hbl
  (try go_wp2_with fail)
  refine hKk.out _ _ ?_ (fun hHeld => ?_)
  · (try dsimp only)
    exact unhide HA
  clear hKk Kk
  (try simp only [List.setIfInBounds_toArray, List.set_cons_zero, List.set_cons_succ])
  refine tkA 7 25 255 ?_
  refine tkA 8 26 511 ?_
  refine tkA 9 27 1023 ?_
  refine tkA 10 28 2047 ?_
  refine tkA 11 29 4095 ?_
  refine tkA 12 30 8191 ?_
  refine tkA 15 33 40959 ?_
  refine tkA 16 34 106495 ?_
  refine tkA 17 35 237567 ?_
  refine rdA 13 245759 (fun Kk hKk => ?_)
  go_simp
  refine (unhide HN _ (unhide HM)).mono ?_
  rintro _ w6 ⟨rfl, hbl⟩
  have HB := hide (bthen (unhide HB) hbl)
  have HM := hide ((unhide HM).below hbl)
  have HA := hide ((unhide HA).below hbl)
  clear hbl
  (try go_wp2_with fail)
  refine hKk.out _ _ ?_ (fun hHeld => ?_)
  · (try dsimp only)
    exact unhide HA
  clear hKk Kk
  (try simp only [List.setIfInBounds_toArray, List.set_cons_zero, List.set_cons_succ])
  refine rdA 14 262143 (fun Kk hKk => ?_)
  go_simp
  refine (unhide HA1 _ (unhide HM)).mono ?_
  rintro _ w9 ⟨rfl, hbl⟩
  have HB := hide (bthen (unhide HB) hbl)
  have HM := hide ((unhide HM).below hbl)
  have HA := hide ((unhide HA).below hbl)
  clear hbl
  (try go_wp2_with fail)
  refine hKk.out _ _ ?_ (fun hHeld => ?_)
  · (try dsimp only)
    exact unhide HA
  clear hKk Kk
  (try simp only [List.setIfInBounds_toArray, List.set_cons_zero, List.set_cons_succ])
  refine rdA 18 524287 (fun Kk hKk => ?_)
  go_simp
  refine (unhide HA2 _ (unhide HM)).mono ?_
  rintro _ w10 ⟨rfl, hbl⟩
  have HB := hide (bthen (unhide HB) hbl)
  have HM := hide ((unhide HM).below hbl)
  have HA := hide ((unhide HA).below hbl)
  clear hbl
  (try go_wp2_with fail)
  refine hKk.out _ _ ?_ (fun hHeld => ?_)
  · (try dsimp only)
    exact unhide HA
  clear hKk Kk
  (try simp only [List.setIfInBounds_toArray, List.set_cons_zero, List.set_cons_succ])
  refine tkA 19 37 1048575 ?_
  refine tkA 20 38 2097151 ?_
  refine tkA 21 39 4194303 ?_
  refine tkA 22 40 8388607 ?_
  refine tkA 23 41 16777215 ?_
  refine tkA 24 42 33554431 ?_
  refine tkA 25 43 67108863 ?_
  refine tkA 26 44 134217727 ?_
  refine tkA 28 46 402653183 ?_
  refine tkA 29 47 939524095 ?_
  refine tkA 30 48 2013265919 ?_
  refine tkA 31 49 4160749567 ?_
  refine rdA 27 4294967295 (fun Kk hKk => ?_)
  go_simp
  refine (unhide H4 _ (unhide HM)).mono ?_
  rintro _ w5 ⟨rfl, hbl⟩
  have HB := hide (bthen (unhide HB) hbl)
  have HM := hide ((unhide HM).below hbl)
  have HA := hide ((unhide HA).below hbl)
  clear hbl
  (try go_wp2_with fail)
  refine hKk.out _ _ ?_ (fun hHeld => ?_)
  · (try dsimp only)
    exact unhide HA
  clear hKk Kk
  (try simp only [List.setIfInBounds_toArray, List.set_cons_zero, List.set_cons_succ])
  refine rdA 32 8589934591 (fun Kk hKk => ?_)
  go_simp
  refine (unhide HN _ (unhide HM)).mono ?_
  rintro _ w7 ⟨rfl, hbl⟩
  have HB := hide (bthen (unhide HB) hbl)
  have HM := hide ((unhide HM).below hbl)
  have HA := hide ((unhide HA).below hbl)
  clear hbl
  (try go_wp2_with fail)
  refine hKk.out _ _ ?_ (fun hHeld => ?_)
  · (try dsimp only)
    exact unhide HA
  clear hKk Kk
  (try simp only [List.setIfInBounds_toArray, List.set_cons_zero, List.set_cons_succ])
  refine rdA 33 17179869183 (fun Kk hKk => ?_)
  go_simp
  refine (unhide HN2 _ (unhide HM)).mono ?_
  rintro _ w8 ⟨rfl, hbl⟩
  have HB := hide (bthen (unhide HB) hbl)
  have HM := hide ((unhide HM).below hbl)
  have HA := hide ((unhide HA).below hbl)
  clear hbl
  (try go_wp2_with fail)
  refine hKk.out _ _ ?_ (fun hHeld => ?_)
  · (try dsimp only)
    exact unhide HA
  clear hKk Kk
  (try simp only [List.setIfInBounds_toArray, List.set_cons_zero, List.set_cons_succ])
  refine tkA 34 52 34359738367 ?_
  refine tkA 35 53 68719476735 ?_
  refine tkA 36 4 137438953471 ?_
  refine wpAnyH_done (by kernel_rfl) ?_ _
  go_wp2
  go_ret
  exact ⟨by simp, unhide HB⟩
end Go.Proofs.YtahaocnlclkeaaaDoor
