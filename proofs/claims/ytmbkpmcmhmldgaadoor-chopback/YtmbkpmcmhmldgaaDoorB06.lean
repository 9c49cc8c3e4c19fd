/- ChA, LawB. -/
import Derived.Test.YtmbkpmcmhmldgaaDoorB01
import Derived.Test.YtmbkpmcmhmldgaaDoorB04
namespace Go.Proofs.YtmbkpmcmhmldgaaDoor
open Go.RowKit

set_option maxHeartbeats 4000000 in
set_option maxRecDepth 100000 in
theorem kn_l {k e f : Int} (W : World) (HF : Ct 13 #[.int .i64 k] (.tuple #[.int .i64 e, .int .i64 f])) :
    Calls Tryd.prog 16 #[.int .i64 k] W fun r W' => r = .returned (.bool (e != 0)) ∧ Below W.heap.size W W' := by
  have HB := hide (Below.refl W.heap.size W)
  go_enter Tryd.func16, Tryd.ntmps16
  go_wp2_with fail
  refine (unhide HF _).mono ?_
  rintro _ w1 ⟨rfl, hb⟩
  have HB := hide (bthen (unhide HB) hb)
  clear hb
  go_wp2_with fail
  go_ret
  exact ⟨rfl, unhide HB⟩
set_option maxHeartbeats 4000000 in
set_option maxRecDepth 100000 in
theorem ends_t {k a h L : Int} (W : World) (HC : Ct 38 #[.int .i64 k, .int .u64 18446744073709551615] (.int .u64 a)) (h1 : a / 2 = h) (h2 : IntKind.u64.wrap (a - h) = L) :
    Calls Tryd.prog 18 #[.int .i64 k, .bool true] W fun r W' => r = .returned (.tuple #[.int .u64 L, .int .u64 h]) ∧ Below W.heap.size W W' := by
  have HB := hide (Below.refl W.heap.size W)
  go_enter Tryd.func18, Tryd.ntmps18
  go_wp2_with fail
  refine (unhide HC _).mono ?_
  rintro _ w1 ⟨rfl, hb⟩
  have HB := hide (bthen (unhide HB) hb)
  clear hb
  go_wp2_with fail
  go_ret2
  exact ⟨rfl, unhide HB⟩
set_option maxHeartbeats 4000000 in
set_option maxRecDepth 100000 in
theorem ends_f {k a : Int} (W : World) (HC : Ct 38 #[.int .i64 k, .int .u64 18446744073709551615] (.int .u64 a)) :
    Calls Tryd.prog 18 #[.int .i64 k, .bool false] W fun r W' => r = .returned (.tuple #[.int .u64 0, .int .u64 a]) ∧ Below W.heap.size W W' := by
  have HB := hide (Below.refl W.heap.size W)
  go_enter Tryd.func18, Tryd.ntmps18
  go_wp2_with fail
  refine (unhide HC _).mono ?_
  rintro _ w1 ⟨rfl, hb⟩
  have HB := hide (bthen (unhide HB) hb)
  clear hb
  go_wp2_with fail
  go_ret2
  exact ⟨rfl, unhide HB⟩
set_option maxHeartbeats 4000000 in
set_option maxRecDepth 100000 in
theorem with_t {k x y V : Int} (W : World) (h1 : IntKind.u64.wrap (-x) = y) (HC : Ct 38 #[.int .i64 k, .int .u64 y] (.int .u64 V)) :
    Calls Tryd.prog 22 #[.int .i64 k, .bool true, .int .u64 x] W fun r W' => r = .returned (.int .u64 V) ∧ Below W.heap.size W W' := by
  have HB := hide (Below.refl W.heap.size W)
  go_enter Tryd.func22, Tryd.ntmps22
  go_wp2_with fail
  refine (unhide HC _).mono ?_
  rintro _ w1 ⟨rfl, hb⟩
  have HB := hide (bthen (unhide HB) hb)
  clear hb
  go_wp2_with fail
  go_ret
  exact ⟨rfl, unhide HB⟩
set_option maxHeartbeats 4000000 in
set_option maxRecDepth 100000 in
theorem with_f {k x : Int} (W : World)  :
    Calls Tryd.prog 22 #[.int .i64 k, .bool false, .int .u64 x] W fun r W' => r = .returned (.int .u64 x) ∧ Below W.heap.size W W' := by
  have HB := hide (Below.refl W.heap.size W)
  go_enter Tryd.func22, Tryd.ntmps22
  go_wp2_with fail
  go_ret
  exact ⟨rfl, unhide HB⟩
set_option maxHeartbeats 4000000 in
set_option maxRecDepth 100000 in
theorem trap_y {w k x a t : Int} {s : Bool} (W : World) (HC : Ct 10 #[.int .i64 w, .int .i64 k, .int .u64 x, .bool s] (.tuple #[.int .u64 a, .int .i64 t])) (g : (t != 0) = true) :
    Calls Tryd.prog 5 #[.int .i64 w, .int .i64 k, .int .u64 x, .bool s] W fun r W' => r = .returned (.tuple #[.int .u64 0, .int .i64 t]) ∧ Below W.heap.size W W' := by
  have HB := hide (Below.refl W.heap.size W)
  go_enter Tryd.func5, Tryd.ntmps5
  go_wp2_with fail
  refine (unhide HC _).mono ?_
  rintro _ w1 ⟨rfl, hb⟩
  have HB := hide (bthen (unhide HB) hb)
  clear hb
  go_wp2_with fail
  go_ret2
  exact ⟨rfl, unhide HB⟩
set_option maxHeartbeats 4000000 in
set_option maxRecDepth 100000 in
theorem trap_n {w k x a : Int} {s : Bool} (W : World) (HC : Ct 10 #[.int .i64 w, .int .i64 k, .int .u64 x, .bool s] (.tuple #[.int .u64 a, .int .i64 0])) :
    Calls Tryd.prog 5 #[.int .i64 w, .int .i64 k, .int .u64 x, .bool s] W fun r W' => r = .returned (.tuple #[.int .u64 a, .int .i64 0]) ∧ Below W.heap.size W W' := by
  have HB := hide (Below.refl W.heap.size W)
  go_enter Tryd.func5, Tryd.ntmps5
  go_wp2_with fail
  refine (unhide HC _).mono ?_
  rintro _ w1 ⟨rfl, hb⟩
  have HB := hide (bthen (unhide HB) hb)
  clear hb
  go_wp2_with fail
  go_ret2
  exact ⟨rfl, unhide HB⟩
set_option maxHeartbeats 4000000 in
set_option maxRecDepth 100000 in
theorem sat_l {w k x a t : Int} {s : Bool} (W : World) (HC : Ct 10 #[.int .i64 w, .int .i64 k, .int .u64 x, .bool s] (.tuple #[.int .u64 a, .int .i64 t])) :
    Calls Tryd.prog 6 #[.int .i64 w, .int .i64 k, .int .u64 x, .bool s] W fun r W' => r = .returned (.int .u64 a) ∧ Below W.heap.size W W' := by
  have HB := hide (Below.refl W.heap.size W)
  go_enter Tryd.func6, Tryd.ntmps6
  go_wp2_with fail
  refine (unhide HC _).mono ?_
  rintro _ w1 ⟨rfl, hb⟩
  have HB := hide (bthen (unhide HB) hb)
  clear hb
  go_wp2_with fail
  go_ret
  exact ⟨rfl, unhide HB⟩
end Go.Proofs.YtmbkpmcmhmldgaaDoor
namespace Go.Proofs.YtmbkpmcmhmldgaaDoor
open Go.RowKit
open Go.Proofs.YtmbkpmcmhmldgaaDoor.W

def At3 (b : Nat) (x y z : Value) (w : World) : Prop := w.cell? ⟨b, 0, none⟩ = some x ∧ w.cell? ⟨b, 1, none⟩ = some y ∧ w.cell? ⟨b, 2, none⟩ = some z
theorem At3.below {b : Nat} {x y z : Value} {w w' : World} (h : At3 b x y z w) (hb : Below w.heap.size w w') : At3 b x y z w' :=
  have hz := lt_of_cell h.1
  ⟨keep1 hb hz h.1, keep1 hb hz h.2.1, keep1 hb hz h.2.2⟩
theorem at3_new (w : World) (x y z : Value) (t : TypeId) : At3 w.heap.size x y z (w.alloc (.cells #[x, y, z] t)) := by unfold At3; simp [go_sem]

set_option maxHeartbeats 4000000 in
set_option maxRecDepth 100000 in
theorem back_0n {w k x n : Int} {s : Bool} (W : World) (HM : Hid (Mk W)) (HA0 : Ct 4 #[] (.bool true)) (H1 : Ct 5 #[.int .i64 w, .int .i64 k, .int .u64 x, .bool s] (.tuple #[.int .u64 n, .int .i64 0])) (H2 : Ct 6 #[.int .i64 w, .int .i64 k, .int .u64 x, .bool s] (.int .u64 n)) (H3 : Cm 7 #[.int .i64 w, .int .i64 k, .int .u64 x, .bool s] (.bool false)) :
    Calls Tryd.prog 3 #[.agg #[.int .i64 w, .int .i64 k, .bool s], .int .u64 x] W fun r W' => r = .returned (.bool true) ∧ Below W.heap.size W W' := by
  go_enter Tryd.func3, Tryd.ntmps3
  go_wp2_with fail
  have HB := hide (below1 W (.cells #[.int .i64 w, .int .i64 k, .bool s] 23))
  have HM := hide ((unhide HM).below (unhide HB))
  have HA := hide (at3_new W (.int .i64 w) (.int .i64 k) (.bool s) 23)
  refine (unhide HA0 _).mono ?_
  rintro _ w1 ⟨rfl, hb⟩
  have HB := hide (bthen (unhide HB) hb)
  have HA := hide ((unhide HA).below hb)
  have HM := hide ((unhide HM).below hb)
  clear hb
  obtain ⟨c0, c1, c2⟩ := unhide HA
  go_wp2_with fail
  clear c0 c1 c2
  refine (unhide H1 _).mono ?_
  rintro _ w2 ⟨rfl, hb⟩
  have HB := hide (bthen (unhide HB) hb)
  have HA := hide ((unhide HA).below hb)
  have HM := hide ((unhide HM).below hb)
  clear hb
  obtain ⟨c0, c1, c2⟩ := unhide HA
  go_wp2_with fail
  clear c0 c1 c2
  refine (unhide H2 _).mono ?_
  rintro _ w3 ⟨rfl, hb⟩
  have HB := hide (bthen (unhide HB) hb)
  have HA := hide ((unhide HA).below hb)
  have HM := hide ((unhide HM).below hb)
  clear hb
  obtain ⟨c0, c1, c2⟩ := unhide HA
  go_wp2_with fail
  clear c0 c1 c2
  refine (unhide H3 _ (unhide HM)).mono ?_
  rintro _ w4 ⟨rfl, hb⟩
  have HB := hide (bthen (unhide HB) hb)
  have HA := hide ((unhide HA).below hb)
  have HM := hide ((unhide HM).below hb)
  clear hb
  obtain ⟨c0, c1, c2⟩ := unhide HA
  go_wp2_with fail
  clear c0 c1 c2
  go_ret
  exact ⟨rfl, unhide HB⟩
set_option maxHeartbeats 4000000 in
set_option maxRecDepth 100000 in
theorem back_0f {w k x n q c y m : Int} (W : World) (HM : Hid (Mk W)) (HA0 : Ct 4 #[] (.bool true)) (H1 : Ct 5 #[.int .i64 w, .int .i64 k, .int .u64 x, .bool false] (.tuple #[.int .u64 n, .int .i64 0])) (H2 : Ct 6 #[.int .i64 w, .int .i64 k, .int .u64 x, .bool false] (.int .u64 n)) (H3 : Cm 7 #[.int .i64 w, .int .i64 k, .int .u64 x, .bool false] (.bool true)) (H4 : Ct 8 #[.int .i64 w, .int .i64 k, .int .u64 x] (.int .u64 q)) (H6 : Ct 5 #[.int .i64 w, .int .i64 k, .int .u64 q, .bool false] (.tuple #[.int .u64 m, .int .i64 0])) (hc : IntKind.i64.wrap (64 - k) = c) (d0 : 0 ≤ c) (d1 : c < 64) (h1 : IntKind.u64.wrap (x * 2 ^ c.toNat) = y) (h2 : y / 2 ^ c.toNat = m) :
    Calls Tryd.prog 3 #[.agg #[.int .i64 w, .int .i64 k, .bool false], .int .u64 x] W fun r W' => r = .returned (.bool true) ∧ Below W.heap.size W W' := by
  go_enter Tryd.func3, Tryd.ntmps3
  go_wp2_with fail
  have HB := hide (below1 W (.cells #[.int .i64 w, .int .i64 k, .bool false] 23))
  have HM := hide ((unhide HM).below (unhide HB))
  have HA := hide (at3_new W (.int .i64 w) (.int .i64 k) (.bool false) 23)
  refine (unhide HA0 _).mono ?_
  rintro _ w1 ⟨rfl, hb⟩
  have HB := hide (bthen (unhide HB) hb)
  have HA := hide ((unhide HA).below hb)
  have HM := hide ((unhide HM).below hb)
  clear hb
  obtain ⟨c0, c1, c2⟩ := unhide HA
  go_wp2_with fail
  clear c0 c1 c2
  refine (unhide H1 _).mono ?_
  rintro _ w2 ⟨rfl, hb⟩
  have HB := hide (bthen (unhide HB) hb)
  have HA := hide ((unhide HA).below hb)
  have HM := hide ((unhide HM).below hb)
  clear hb
  obtain ⟨c0, c1, c2⟩ := unhide HA
  go_wp2_with fail
  clear c0 c1 c2
  refine (unhide H2 _).mono ?_
  rintro _ w3 ⟨rfl, hb⟩
  have HB := hide (bthen (unhide HB) hb)
  have HA := hide ((unhide HA).below hb)
  have HM := hide ((unhide HM).below hb)
  clear hb
  obtain ⟨c0, c1, c2⟩ := unhide HA
  go_wp2_with fail
  clear c0 c1 c2
  refine (unhide H3 _ (unhide HM)).mono ?_
  rintro _ w4 ⟨rfl, hb⟩
  have HB := hide (bthen (unhide HB) hb)
  have HA := hide ((unhide HA).below hb)
  have HM := hide ((unhide HM).below hb)
  clear hb
  obtain ⟨c0, c1, c2⟩ := unhide HA
  go_wp2_with fail
  clear c0 c1 c2
  refine (unhide H4 _).mono ?_
  rintro _ w5 ⟨rfl, hb⟩
  have HB := hide (bthen (unhide HB) hb)
  have HA := hide ((unhide HA).below hb)
  have HM := hide ((unhide HM).below hb)
  clear hb
  obtain ⟨c0, c1, c2⟩ := unhide HA
  go_wp2_with fail
  clear c0 c1 c2
  refine (unhide H6 _).mono ?_
  rintro _ w6 ⟨rfl, hb⟩
  have HB := hide (bthen (unhide HB) hb)
  have HA := hide ((unhide HA).below hb)
  have HM := hide ((unhide HM).below hb)
  clear hb
  obtain ⟨c0, c1, c2⟩ := unhide HA
  go_wp2_with fail
  clear c0 c1 c2
  have HB := hide ((unhide HB).drew)
  have HA := hide ((unhide HA).below ((Below.refl _ _).drew))
  refine wp_region_held_drew (S := fun w' => (w'.cell? ⟨W.heap.size, 0, none⟩ = some (.int .i64 w) ∧ w'.cell? ⟨W.heap.size, 1, none⟩ = some (.int .i64 k) ∧ w'.cell? ⟨W.heap.size, 2, none⟩ = some (.bool false))) (by kernel_rfl) ?_ (fun hHeld => ?_)
  · (try dsimp only)
    exact unhide HA
  refine lst0 16 (by kernel_rfl) ?_
  refine tkA 0 79 1 ?_
  refine tkA 1 80 3 ?_
  refine tkA 2 81 7 ?_
  refine tkA 3 82 15 ?_
  refine tkA 4 83 31 ?_
  refine tkA 5 84 63 ?_
  refine tkA 6 85 127 ?_
  refine tkA 7 86 255 ?_
  refine tkA 8 87 511 ?_
  refine tkA 9 88 1023 ?_
  refine tkA 10 89 2047 ?_
  refine tkA 11 90 4095 ?_
  refine tkA 12 91 8191 ?_
  refine tkA 13 92 16383 ?_
  refine tkA 14 93 32767 ?_
  refine tkA 15 4 65535 ?_
  refine wpAnyH_done (by kernel_rfl) ?_ _
  go_wp2
  go_ret
  exact ⟨by simp, unhide HB⟩
set_option maxHeartbeats 4000000 in
set_option maxRecDepth 100000 in
theorem back_0t {w k x n q c y m r : Int} (W : World) (HM : Hid (Mk W)) (HA0 : Ct 4 #[] (.bool true)) (H1 : Ct 5 #[.int .i64 w, .int .i64 k, .int .u64 x, .bool true] (.tuple #[.int .u64 n, .int .i64 0])) (H2 : Ct 6 #[.int .i64 w, .int .i64 k, .int .u64 x, .bool true] (.int .u64 n)) (H3 : Cm 7 #[.int .i64 w, .int .i64 k, .int .u64 x, .bool true] (.bool true)) (H4 : Ct 8 #[.int .i64 w, .int .i64 k, .int .u64 x] (.int .u64 q)) (H5 : Ct 9 #[.int .i64 w, .int .i64 k, .int .u64 x] (.int .u64 r)) (H6 : Ct 5 #[.int .i64 w, .int .i64 k, .int .u64 r, .bool true] (.tuple #[.int .u64 m, .int .i64 0])) (hc : IntKind.i64.wrap (64 - k) = c) (d0 : 0 ≤ c) (d1 : c < 64) (h1 : IntKind.u64.wrap (x * 2 ^ c.toNat) = y) (h2 : y / 2 ^ c.toNat = m) :
    Calls Tryd.prog 3 #[.agg #[.int .i64 w, .int .i64 k, .bool true], .int .u64 x] W fun r W' => r = .returned (.bool true) ∧ Below W.heap.size W W' := by
  go_enter Tryd.func3, Tryd.ntmps3
  go_wp2_with fail
  have HB := hide (below1 W (.cells #[.int .i64 w, .int .i64 k, .bool true] 23))
  have HM := hide ((unhide HM).below (unhide HB))
  have HA := hide (at3_new W (.int .i64 w) (.int .i64 k) (.bool true) 23)
  refine (unhide HA0 _).mono ?_
  rintro _ w1 ⟨rfl, hb⟩
  have HB := hide (bthen (unhide HB) hb)
  have HA := hide ((unhide HA).below hb)
  have HM := hide ((unhide HM).below hb)
  clear hb
  obtain ⟨c0, c1, c2⟩ := unhide HA
  go_wp2_with fail
  clear c0 c1 c2
  refine (unhide H1 _).mono ?_
  rintro _ w2 ⟨rfl, hb⟩
  have HB := hide (bthen (unhide HB) hb)
  have HA := hide ((unhide HA).below hb)
  have HM := hide ((unhide HM).below hb)
  clear hb
  obtain ⟨c0, c1, c2⟩ := unhide HA
  go_wp2_with fail
  clear c0 c1 c2
  refine (unhide H2 _).mono ?_
  rintro _ w3 ⟨rfl, hb⟩
  have HB := hide (bthen (unhide HB) hb)
  have HA := hide ((unhide HA).below hb)
  have HM := hide ((unhide HM).below hb)
  clear hb
  obtain ⟨c0, c1, c2⟩ := unhide HA
  go_wp2_with fail
  clear c0 c1 c2
  refine (unhide H3 _ (unhide HM)).mono ?_
  rintro _ w4 ⟨rfl, hb⟩
  have HB := hide (bthen (unhide HB) hb)
  have HA := hide ((unhide HA).below hb)
  have HM := hide ((unhide HM).below hb)
  clear hb
  obtain ⟨c0, c1, c2⟩ := unhide HA
  go_wp2_with fail
  clear c0 c1 c2
  refine (unhide H4 _).mono ?_
  rintro _ w5 ⟨rfl, hb⟩
  have HB := hide (bthen (unhide HB) hb)
  have HA := hide ((unhide HA).below hb)
  have HM := hide ((unhide HM).below hb)
  clear hb
  obtain ⟨c0, c1, c2⟩ := unhide HA
  go_wp2_with fail
  clear c0 c1 c2
  refine (unhide H5 _).mono ?_
  rintro _ w6 ⟨rfl, hb⟩
  have HB := hide (bthen (unhide HB) hb)
  have HA := hide ((unhide HA).below hb)
  have HM := hide ((unhide HM).below hb)
  clear hb
  obtain ⟨c0, c1, c2⟩ := unhide HA
  go_wp2_with fail
  clear c0 c1 c2
  refine (unhide H6 _).mono ?_
  rintro _ w7 ⟨rfl, hb⟩
  have HB := hide (bthen (unhide HB) hb)
  have HA := hide ((unhide HA).below hb)
  have HM := hide ((unhide HM).below hb)
  clear hb
  obtain ⟨c0, c1, c2⟩ := unhide HA
  go_wp2_with fail
  clear c0 c1 c2
  have HB := hide ((unhide HB).drew)
  have HA := hide ((unhide HA).below ((Below.refl _ _).drew))
  refine wp_region_held_drew (S := fun w' => (w'.cell? ⟨W.heap.size, 0, none⟩ = some (.int .i64 w) ∧ w'.cell? ⟨W.heap.size, 1, none⟩ = some (.int .i64 k) ∧ w'.cell? ⟨W.heap.size, 2, none⟩ = some (.bool true))) (by kernel_rfl) ?_ (fun hHeld => ?_)
  · (try dsimp only)
    exact unhide HA
  refine lst0 16 (by kernel_rfl) ?_
  refine tkA 0 79 1 ?_
  refine tkA 1 80 3 ?_
  refine tkA 2 81 7 ?_
  refine tkA 3 82 15 ?_
  refine tkA 4 83 31 ?_
  refine tkA 5 84 63 ?_
  refine tkA 6 85 127 ?_
  refine tkA 7 86 255 ?_
  refine tkA 8 87 511 ?_
  refine tkA 9 88 1023 ?_
  refine tkA 10 89 2047 ?_
  refine tkA 11 90 4095 ?_
  refine tkA 12 91 8191 ?_
  refine tkA 13 92 16383 ?_
  refine tkA 14 93 32767 ?_
  refine tkA 15 4 65535 ?_
  refine wpAnyH_done (by kernel_rfl) ?_ _
  go_wp2
  go_ret
  exact ⟨by simp, unhide HB⟩
set_option maxHeartbeats 4000000 in
set_option maxRecDepth 100000 in
theorem back_tn {w k x t : Int} {s : Bool} (W : World) (HM : Hid (Mk W)) (HA0 : Ct 4 #[] (.bool true)) (H1 : Ct 5 #[.int .i64 w, .int .i64 k, .int .u64 x, .bool s] (.tuple #[.int .u64 0, .int .i64 t])) (g1 : (t == 0) = false) (g2 : (t != 0) = true) (H3 : Cm 7 #[.int .i64 w, .int .i64 k, .int .u64 x, .bool s] (.bool false)) :
    Calls Tryd.prog 3 #[.agg #[.int .i64 w, .int .i64 k, .bool s], .int .u64 x] W fun r W' => r = .returned (.bool true) ∧ Below W.heap.size W W' := by
  go_enter Tryd.func3, Tryd.ntmps3
  go_wp2_with fail
  have HB := hide (below1 W (.cells #[.int .i64 w, .int .i64 k, .bool s] 23))
  have HM := hide ((unhide HM).below (unhide HB))
  have HA := hide (at3_new W (.int .i64 w) (.int .i64 k) (.bool s) 23)
  refine (unhide HA0 _).mono ?_
  rintro _ w1 ⟨rfl, hb⟩
  have HB := hide (bthen (unhide HB) hb)
  have HA := hide ((unhide HA).below hb)
  have HM := hide ((unhide HM).below hb)
  clear hb
  obtain ⟨c0, c1, c2⟩ := unhide HA
  go_wp2_with fail
  clear c0 c1 c2
  refine (unhide H1 _).mono ?_
  rintro _ w2 ⟨rfl, hb⟩
  have HB := hide (bthen (unhide HB) hb)
  have HA := hide ((unhide HA).below hb)
  have HM := hide ((unhide HM).below hb)
  clear hb
  obtain ⟨c0, c1, c2⟩ := unhide HA
  go_wp2_with fail
  clear c0 c1 c2
  refine (unhide H3 _ (unhide HM)).mono ?_
  rintro _ w3 ⟨rfl, hb⟩
  have HB := hide (bthen (unhide HB) hb)
  have HA := hide ((unhide HA).below hb)
  have HM := hide ((unhide HM).below hb)
  clear hb
  obtain ⟨c0, c1, c2⟩ := unhide HA
  go_wp2_with fail
  clear c0 c1 c2
  go_ret
  exact ⟨rfl, unhide HB⟩
set_option maxHeartbeats 4000000 in
set_option maxRecDepth 100000 in
theorem back_tf {w k x t q c y m : Int} (W : World) (HM : Hid (Mk W)) (HA0 : Ct 4 #[] (.bool true)) (H1 : Ct 5 #[.int .i64 w, .int .i64 k, .int .u64 x, .bool false] (.tuple #[.int .u64 0, .int .i64 t])) (g1 : (t == 0) = false) (g2 : (t != 0) = true) (H3 : Cm 7 #[.int .i64 w, .int .i64 k, .int .u64 x, .bool false] (.bool true)) (H4 : Ct 8 #[.int .i64 w, .int .i64 k, .int .u64 x] (.int .u64 q)) (H6 : Ct 5 #[.int .i64 w, .int .i64 k, .int .u64 q, .bool false] (.tuple #[.int .u64 m, .int .i64 0])) (hc : IntKind.i64.wrap (64 - k) = c) (d0 : 0 ≤ c) (d1 : c < 64) (h1 : IntKind.u64.wrap (x * 2 ^ c.toNat) = y) (h2 : y / 2 ^ c.toNat = m) :
    Calls Tryd.prog 3 #[.agg #[.int .i64 w, .int .i64 k, .bool false], .int .u64 x] W fun r W' => r = .returned (.bool true) ∧ Below W.heap.size W W' := by
  go_enter Tryd.func3, Tryd.ntmps3
  go_wp2_with fail
  have HB := hide (below1 W (.cells #[.int .i64 w, .int .i64 k, .bool false] 23))
  have HM := hide ((unhide HM).below (unhide HB))
  have HA := hide (at3_new W (.int .i64 w) (.int .i64 k) (.bool false) 23)
  refine (unhide HA0 _).mono ?_
  rintro _ w1 ⟨rfl, hb⟩
  have HB := hide (bthen (unhide HB) hb)
  have HA := hide ((unhide HA).below hb)
  have HM := hide ((unhide HM).below hb)
  clear hb
  obtain ⟨c0, c1, c2⟩ := unhide HA
  go_wp2_with fail
  clear c0 c1 c2
  refine (unhide H1 _).mono ?_
  rintro _ w2 ⟨rfl, hb⟩
  have HB := hide (bthen (unhide HB) hb)
  have HA := hide ((unhide HA).below hb)
  have HM := hide ((unhide HM).below hb)
  clear hb
  obtain ⟨c0, c1, c2⟩ := unhide HA
  go_wp2_with fail
  clear c0 c1 c2
  refine (unhide H3 _ (unhide HM)).mono ?_
  rintro _ w3 ⟨rfl, hb⟩
  have HB := hide (bthen (unhide HB) hb)
  have HA := hide ((unhide HA).below hb)
  have HM := hide ((unhide HM).below hb)
  clear hb
  obtain ⟨c0, c1, c2⟩ := unhide HA
  go_wp2_with fail
  clear c0 c1 c2
  refine (unhide H4 _).mono ?_
  rintro _ w4 ⟨rfl, hb⟩
  have HB := hide (bthen (unhide HB) hb)
  have HA := hide ((unhide HA).below hb)
  have HM := hide ((unhide HM).below hb)
  clear hb
  obtain ⟨c0, c1, c2⟩ := unhide HA
  go_wp2_with fail
  clear c0 c1 c2
  refine (unhide H6 _).mono ?_
  rintro _ w5 ⟨rfl, hb⟩
  have HB := hide (bthen (unhide HB) hb)
  have HA := hide ((unhide HA).below hb)
  have HM := hide ((unhide HM).below hb)
  clear hb
  obtain ⟨c0, c1, c2⟩ := unhide HA
  go_wp2_with fail
  clear c0 c1 c2
  have HB := hide ((unhide HB).drew)
  have HA := hide ((unhide HA).below ((Below.refl _ _).drew))
  refine wp_region_held_drew (S := fun w' => (w'.cell? ⟨W.heap.size, 0, none⟩ = some (.int .i64 w) ∧ w'.cell? ⟨W.heap.size, 1, none⟩ = some (.int .i64 k) ∧ w'.cell? ⟨W.heap.size, 2, none⟩ = some (.bool false))) (by kernel_rfl) ?_ (fun hHeld => ?_)
  · (try dsimp only)
    exact unhide HA
  refine lst0 16 (by kernel_rfl) ?_
  refine tkA 0 79 1 ?_
  refine tkA 1 80 3 ?_
  refine tkA 2 81 7 ?_
  refine tkA 3 82 15 ?_
  refine tkA 4 83 31 ?_
  refine tkA 5 84 63 ?_
  refine tkA 6 85 127 ?_
  refine tkA 7 86 255 ?_
  refine tkA 8 87 511 ?_
  refine tkA 9 88 1023 ?_
  refine tkA 10 89 2047 ?_
  refine tkA 11 90 4095 ?_
  refine tkA 12 91 8191 ?_
  refine tkA 13 92 16383 ?_
  refine tkA 14 93 32767 ?_
  refine tkA 15 4 65535 ?_
  refine wpAnyH_done (by kernel_rfl) ?_ _
  go_wp2
  go_ret
  exact ⟨by simp, unhide HB⟩
set_option maxHeartbeats 4000000 in
set_option maxRecDepth 100000 in
theorem back_tt {w k x t q c y m r : Int} (W : World) (HM : Hid (Mk W)) (HA0 : Ct 4 #[] (.bool true)) (H1 : Ct 5 #[.int .i64 w, .int .i64 k, .int .u64 x, .bool true] (.tuple #[.int .u64 0, .int .i64 t])) (g1 : (t == 0) = false) (g2 : (t != 0) = true) (H3 : Cm 7 #[.int .i64 w, .int .i64 k, .int .u64 x, .bool true] (.bool true)) (H4 : Ct 8 #[.int .i64 w, .int .i64 k, .int .u64 x] (.int .u64 q)) (H5 : Ct 9 #[.int .i64 w, .int .i64 k, .int .u64 x] (.int .u64 r)) (H6 : Ct 5 #[.int .i64 w, .int .i64 k, .int .u64 r, .bool true] (.tuple #[.int .u64 m, .int .i64 0])) (hc : IntKind.i64.wrap (64 - k) = c) (d0 : 0 ≤ c) (d1 : c < 64) (h1 : IntKind.u64.wrap (x * 2 ^ c.toNat) = y) (h2 : y / 2 ^ c.toNat = m) :
    Calls Tryd.prog 3 #[.agg #[.int .i64 w, .int .i64 k, .bool true], .int .u64 x] W fun r W' => r = .returned (.bool true) ∧ Below W.heap.size W W' := by
  go_enter Tryd.func3, Tryd.ntmps3
  go_wp2_with fail
  have HB := hide (below1 W (.cells #[.int .i64 w, .int .i64 k, .bool true] 23))
  have HM := hide ((unhide HM).below (unhide HB))
  have HA := hide (at3_new W (.int .i64 w) (.int .i64 k) (.bool true) 23)
  refine (unhide HA0 _).mono ?_
  rintro _ w1 ⟨rfl, hb⟩
  have HB := hide (bthen (unhide HB) hb)
  have HA := hide ((unhide HA).below hb)
  have HM := hide ((unhide HM).below hb)
  clear hb
  obtain ⟨c0, c1, c2⟩ := unhide HA
  go_wp2_with fail
  clear c0 c1 c2
  refine (unhide H1 _).mono ?_
  rintro _ w2 ⟨rfl, hb⟩
  have HB := hide (bthen (unhide HB) hb)
  have HA := hide ((unhide HA).below hb)
  have HM := hide ((unhide HM).below hb)
  clear hb
  obtain ⟨c0, c1, c2⟩ := unhide HA
  go_wp2_with fail
  clear c0 c1 c2
  refine (unhide H3 _ (unhide HM)).mono ?_
  rintro _ w3 ⟨rfl, hb⟩
  have HB := hide (bthen (unhide HB) hb)
  have HA := hide ((unhide HA).below hb)
  have HM := hide ((unhide HM).below hb)
  clear hb
  obtain ⟨c0, c1, c2⟩ := unhide HA
  go_wp2_with fail
  clear c0 c1 c2
  refine (unhide H4 _).mono ?_
  rintro _ w4 ⟨rfl, hb⟩
  have HB := hide (bthen (unhide HB) hb)
  have HA := hide ((unhide HA).below hb)
  have HM := hide ((unhide HM).below hb)
  clear hb
  obtain ⟨c0, c1, c2⟩ := unhide HA
  go_wp2_with fail
  clear c0 c1 c2
  refine (unhide H5 _).mono ?_
  rintro _ w5 ⟨rfl, hb⟩
  have HB := hide (bthen (unhide HB) hb)
  have HA := hide ((unhide HA).below hb)
  have HM := hide ((unhide HM).below hb)
  clear hb
  obtain ⟨c0, c1, c2⟩ := unhide HA
  go_wp2_with fail
  clear c0 c1 c2
  refine (unhide H6 _).mono ?_
  rintro _ w6 ⟨rfl, hb⟩
  have HB := hide (bthen (unhide HB) hb)
  have HA := hide ((unhide HA).below hb)
  have HM := hide ((unhide HM).below hb)
  clear hb
  obtain ⟨c0, c1, c2⟩ := unhide HA
  go_wp2_with fail
  clear c0 c1 c2
  have HB := hide ((unhide HB).drew)
  have HA := hide ((unhide HA).below ((Below.refl _ _).drew))
  refine wp_region_held_drew (S := fun w' => (w'.cell? ⟨W.heap.size, 0, none⟩ = some (.int .i64 w) ∧ w'.cell? ⟨W.heap.size, 1, none⟩ = some (.int .i64 k) ∧ w'.cell? ⟨W.heap.size, 2, none⟩ = some (.bool true))) (by kernel_rfl) ?_ (fun hHeld => ?_)
  · (try dsimp only)
    exact unhide HA
  refine lst0 16 (by kernel_rfl) ?_
  refine tkA 0 79 1 ?_
  refine tkA 1 80 3 ?_
  refine tkA 2 81 7 ?_
  refine tkA 3 82 15 ?_
  refine tkA 4 83 31 ?_
  refine tkA 5 84 63 ?_
  refine tkA 6 85 127 ?_
  refine tkA 7 86 255 ?_
  refine tkA 8 87 511 ?_
  refine tkA 9 88 1023 ?_
  refine tkA 10 89 2047 ?_
  refine tkA 11 90 4095 ?_
  refine tkA 12 91 8191 ?_
  refine tkA 13 92 16383 ?_
  refine tkA 14 93 32767 ?_
  refine tkA 15 4 65535 ?_
  refine wpAnyH_done (by kernel_rfl) ?_ _
  go_wp2
  go_ret
  exact ⟨by simp, unhide HB⟩
end Go.Proofs.YtmbkpmcmhmldgaaDoor
