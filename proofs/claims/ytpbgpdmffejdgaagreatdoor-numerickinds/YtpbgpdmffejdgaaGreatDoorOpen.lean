/- The contract of package shape's Open. -/
import Derived.Test.YtpbgpdmffejdgaaGreatDoorRef
import Derived.Test.YtpbgpdmffejdgaaGreatDoorTk
namespace Go.Proofs.YtpbgpdmffejdgaaGreatDoor
open Go.RowKit

theorem bset4 {a b : World} (h : Below a.heap.size a b) (v0 v1 v2 v3 : Value) : Below a.heap.size a ((((b.setCell ⟨a.heap.size, 0, none⟩ v0).setCell ⟨a.heap.size, 1, none⟩ v1).setCell ⟨a.heap.size, 2, none⟩ v2).setCell ⟨a.heap.size, 3, none⟩ v3) :=
  bset (bset (bset (bset h _ (Nat.le_refl _) _ _) _ (Nat.le_refl _) _ _) _ (Nat.le_refl _) _ _) _ (Nat.le_refl _) _ _
theorem room4 {W w1 : World} {v0 v1 v2 v3 : Value} {t : TypeId} (hb : Below (W.alloc (.cells #[v0, v1, v2, v3] t)).heap.size (W.alloc (.cells #[v0, v1, v2, v3] t)) w1) : Room W.heap.size 4 w1 :=
  Room.below (w := W.alloc (.cells #[v0, v1, v2, v3] t)) (by
    intro o ho
    match o, ho with
    | 0, _ | 1, _ | 2, _ | 3, _ => simp [go_sem]) hb
theorem At5.set {b c : Nat} {x y z u v : Value} {w : World} (h : At5 b x y z u v w) (hc : b ≠ c) (o : Nat) (k : Value) : At5 b x y z u v (w.setCell ⟨c, o, none⟩ k) :=
  ⟨keep_set _ _ _ hc h.1, keep_set _ _ _ hc h.2.1, keep_set _ _ _ hc h.2.2.1, keep_set _ _ _ hc h.2.2.2.1, keep_set _ _ _ hc h.2.2.2.2⟩

set_option maxRecDepth 100000 in
set_option maxHeartbeats 4000000 in
theorem open_no {w e f P Q b : Int} (x xx yy : Int) (n : Bool) (_ : Sz e f P Q b) (W : World)
    (HT : Ct 46 #[.int .i64 w, .int .u64 x] (.agg #[.int .i64 e, .int .i64 f, .bool n, .int .u64 xx, .int .u64 yy])) (hf : (f != 0) = false) :
    Calls Tryz.prog 15 #[.int .i64 w, .int .u64 x] W fun r W' => r = .returned (.agg #[.bool false, .int .i64 0, .int .i64 0, .int .u64 0]) ∧ Below W.heap.size W W' := by
  go_enter Tryz.func15, Tryz.ntmps15
  go_wp2_with fail
  refine (unhide HT _).mono ?_
  rintro _ w1 ⟨rfl, hbl⟩
  have HR := hide ((room4 hbl).alloc (.cells #[.int .i64 e, .int .i64 f, .bool n, .int .u64 xx, .int .u64 yy] 82))
  have HB := hide (balloc (bthen (below1 _ _) hbl) (.cells #[.int .i64 e, .int .i64 f, .bool n, .int .u64 xx, .int .u64 yy] 82))
  have HA : Hid (At5 w1.heap.size (.int .i64 e) (.int .i64 f) (.bool n) (.int .u64 xx) (.int .u64 yy) (w1.alloc (.cells #[.int .i64 e, .int .i64 f, .bool n, .int .u64 xx, .int .u64 yy] 82))) := by unfold Hid At5; simp [go_sem]
  have hz1 : W.heap.size < w1.heap.size := by have := hbl.size; simp at this; omega
  clear hbl HT
  go_wp2_with fail
  refine (known_any e f _).mono ?_
  rintro _ w2 ⟨rfl, hbl⟩
  have HB := hide (bthen (unhide HB) hbl)
  have HA := hide ((unhide HA).below hbl)
  have HR := hide ((unhide HR).below hbl)
  clear hbl
  obtain ⟨⟨v0, c0⟩, f0⟩ := (unhide HR) 0 (by omega)
  obtain ⟨⟨v1, c1⟩, f1⟩ := (unhide HR) 1 (by omega)
  obtain ⟨⟨v2, c2⟩, f2⟩ := (unhide HR) 2 (by omega)
  obtain ⟨⟨v3, c3⟩, f3⟩ := (unhide HR) 3 (by omega)
  go_wp2_with fail
  exact bodyPost_ret (v := .agg #[.bool false, .int .i64 0, .int .i64 0, .int .u64 0]) (by simp (maxDischargeDepth := 8) [results, Tryz.results15, go_sem, c0, c1, c2, c3]) rfl ⟨rfl, bset4 (unhide HB) _ _ _ _⟩

set_option maxRecDepth 100000 in
set_option maxHeartbeats 4000000 in
theorem open_nan {w e f P Q b : Int} (x xx yy : Int) (n : Bool) (hs : Sz e f P Q b) (W : World)
    (HT : Ct 46 #[.int .i64 w, .int .u64 x] (.agg #[.int .i64 e, .int .i64 f, .bool n, .int .u64 xx, .int .u64 yy])) (hf : (f != 0) = true) (h1 : (xx == Q - 1) = true) (h2 : (yy != 0) = true) :
    Calls Tryz.prog 15 #[.int .i64 w, .int .u64 x] W fun r W' => r = .returned (.agg #[.bool false, .int .i64 3, .int .i64 0, .int .u64 0]) ∧ Below W.heap.size W W' := by
  go_enter Tryz.func15, Tryz.ntmps15
  go_wp2_with fail
  refine (unhide HT _).mono ?_
  rintro _ w1 ⟨rfl, hbl⟩
  have HR := hide ((room4 hbl).alloc (.cells #[.int .i64 e, .int .i64 f, .bool n, .int .u64 xx, .int .u64 yy] 82))
  have HB := hide (balloc (bthen (below1 _ _) hbl) (.cells #[.int .i64 e, .int .i64 f, .bool n, .int .u64 xx, .int .u64 yy] 82))
  have HA : Hid (At5 w1.heap.size (.int .i64 e) (.int .i64 f) (.bool n) (.int .u64 xx) (.int .u64 yy) (w1.alloc (.cells #[.int .i64 e, .int .i64 f, .bool n, .int .u64 xx, .int .u64 yy] 82))) := by unfold Hid At5; simp [go_sem]
  have hz1 : W.heap.size < w1.heap.size := by have := hbl.size; simp at this; omega
  clear hbl HT
  go_wp2_with fail
  refine (known_any e f _).mono ?_
  rintro _ w2 ⟨rfl, hbl⟩
  have HB := hide (bthen (unhide HB) hbl)
  have HA := hide ((unhide HA).below hbl)
  have HR := hide ((unhide HR).below hbl)
  clear hbl
  obtain ⟨a0, a1, a2, a3, a4⟩ := unhide HA
  go_wp2_with fail
  refine (isNan_any n xx yy hs _).mono ?_
  rintro _ w3 ⟨rfl, hbl⟩
  clear a0 a1 a2 a3 a4
  have HB := hide (bthen (unhide HB) hbl)
  have HA := hide ((unhide HA).below hbl)
  have HR := hide ((unhide HR).below hbl)
  clear hbl
  obtain ⟨⟨v0, c0⟩, f0⟩ := (unhide HR) 0 (by omega)
  obtain ⟨⟨v1, c1⟩, f1⟩ := (unhide HR) 1 (by omega)
  obtain ⟨⟨v2, c2⟩, f2⟩ := (unhide HR) 2 (by omega)
  obtain ⟨⟨v3, c3⟩, f3⟩ := (unhide HR) 3 (by omega)
  rw [h1, h2]
  go_wp2_with fail
  exact bodyPost_ret (v := .agg #[.bool false, .int .i64 3, .int .i64 0, .int .u64 0]) (by simp (maxDischargeDepth := 8) [results, Tryz.results15, go_sem, c0, c1, c2, c3]) rfl ⟨rfl, bset4 (unhide HB) _ _ _ _⟩

set_option maxRecDepth 100000 in
set_option maxHeartbeats 4000000 in
theorem open_inf {w e f P Q b : Int} (x xx yy : Int) (n : Bool) (hs : Sz e f P Q b) (W : World)
    (HT : Ct 46 #[.int .i64 w, .int .u64 x] (.agg #[.int .i64 e, .int .i64 f, .bool n, .int .u64 xx, .int .u64 yy])) (hf : (f != 0) = true) (h1 : (xx == Q - 1) = true) (h2 : (yy != 0) = false) :
    Calls Tryz.prog 15 #[.int .i64 w, .int .u64 x] W fun r W' => r = .returned (.agg #[.bool n, .int .i64 2, .int .i64 0, .int .u64 0]) ∧ Below W.heap.size W W' := by
  go_enter Tryz.func15, Tryz.ntmps15
  go_wp2_with fail
  refine (unhide HT _).mono ?_
  rintro _ w1 ⟨rfl, hbl⟩
  have HR := hide ((room4 hbl).alloc (.cells #[.int .i64 e, .int .i64 f, .bool n, .int .u64 xx, .int .u64 yy] 82))
  have HB := hide (balloc (bthen (below1 _ _) hbl) (.cells #[.int .i64 e, .int .i64 f, .bool n, .int .u64 xx, .int .u64 yy] 82))
  have HA : Hid (At5 w1.heap.size (.int .i64 e) (.int .i64 f) (.bool n) (.int .u64 xx) (.int .u64 yy) (w1.alloc (.cells #[.int .i64 e, .int .i64 f, .bool n, .int .u64 xx, .int .u64 yy] 82))) := by unfold Hid At5; simp [go_sem]
  have hz1 : W.heap.size < w1.heap.size := by have := hbl.size; simp at this; omega
  clear hbl HT
  go_wp2_with fail
  refine (known_any e f _).mono ?_
  rintro _ w2 ⟨rfl, hbl⟩
  have HB := hide (bthen (unhide HB) hbl)
  have HA := hide ((unhide HA).below hbl)
  have HR := hide ((unhide HR).below hbl)
  clear hbl
  obtain ⟨a0, a1, a2, a3, a4⟩ := unhide HA
  go_wp2_with fail
  refine (isNan_any n xx yy hs _).mono ?_
  rintro _ w3 ⟨rfl, hbl⟩
  clear a0 a1 a2 a3 a4
  have HB := hide (bthen (unhide HB) hbl)
  have HA := hide ((unhide HA).below hbl)
  have HR := hide ((unhide HR).below hbl)
  clear hbl
  rw [h1, h2]
  go_wp2_with fail
  have HB := hide (unhide HB).drew
  have HA := hide ((unhide HA).below ((Below.refl _ _).drew))
  have HR := hide (unhide HR).drew
  refine wp_region_held_drew (S := fun w' => (w'.cell? ⟨w1.heap.size, 0, none⟩ = some (.int .i64 e) ∧ w'.cell? ⟨w1.heap.size, 1, none⟩ = some (.int .i64 f) ∧ w'.cell? ⟨w1.heap.size, 2, none⟩ = some (.bool n) ∧ w'.cell? ⟨w1.heap.size, 3, none⟩ = some (.int .u64 xx) ∧ w'.cell? ⟨w1.heap.size, 4, none⟩ = some (.int .u64 yy)) ∧ Room W.heap.size 4 w') (by kernel_rfl) ?_ (fun hHeld => ?_)
  · (try dsimp only)
    exact ⟨unhide HA, unhide HR⟩
  refine lst0 7 (by kernel_rfl) ?_
  refine tkA 0 20 1 ?_
  refine tkA 1 21 3 ?_
  refine tkA 2 22 7 ?_
  refine tkA 3 23 15 ?_
  refine rdA 4 31 (fun Kk hKk => ?_)
  go_simp
  refine (last_any hs _).mono ?_
  rintro _ w4 ⟨rfl, hbl⟩
  have HB := hide (bthen (unhide HB) hbl)
  have HA := hide ((unhide HA).below hbl)
  have HR := hide ((unhide HR).below hbl)
  clear hbl
  (try go_wp2_with fail)
  refine hKk.out _ _ ?_ (fun hHeld => ?_)
  · (try dsimp only)
    exact ⟨unhide HA, unhide HR⟩
  clear hKk Kk
  (try simp only [List.setIfInBounds_toArray, List.set_cons_zero, List.set_cons_succ])
  refine tkA 5 25 63 ?_
  refine tkA 6 19 127 ?_
  refine wpAnyH_done (by kernel_rfl) ?_ _
  clear hHeld
  obtain ⟨a0, a1, a2, a3, a4⟩ := unhide HA
  obtain ⟨⟨v0, c0⟩, f0⟩ := (unhide HR) 0 (by omega)
  obtain ⟨⟨v1, c1⟩, f1⟩ := (unhide HR) 1 (by omega)
  obtain ⟨⟨v2, c2⟩, f2⟩ := (unhide HR) 2 (by omega)
  obtain ⟨⟨v3, c3⟩, f3⟩ := (unhide HR) 3 (by omega)
  go_wp2_with fail
  exact bodyPost_ret (v := .agg #[.bool n, .int .i64 2, .int .i64 0, .int .u64 0]) (by simp (maxDischargeDepth := 8) [results, Tryz.results15, go_sem, c0, c1, c2, c3]) rfl ⟨rfl, bset4 (unhide HB) _ _ _ _⟩

set_option maxRecDepth 100000 in
set_option maxHeartbeats 4000000 in
theorem open_zer {w e f P Q b : Int} (x xx yy : Int) (n : Bool) (hs : Sz e f P Q b) (W : World)
    (HT : Ct 46 #[.int .i64 w, .int .u64 x] (.agg #[.int .i64 e, .int .i64 f, .bool n, .int .u64 xx, .int .u64 yy])) (hf : (f != 0) = true) (h1 : (xx == Q - 1) = false) (h3 : (xx != 0) = false) (h2 : (yy != 0) = false) :
    Calls Tryz.prog 15 #[.int .i64 w, .int .u64 x] W fun r W' => r = .returned (.agg #[.bool n, .int .i64 0, .int .i64 0, .int .u64 0]) ∧ Below W.heap.size W W' := by
  go_enter Tryz.func15, Tryz.ntmps15
  go_wp2_with fail
  refine (unhide HT _).mono ?_
  rintro _ w1 ⟨rfl, hbl⟩
  have HR := hide ((room4 hbl).alloc (.cells #[.int .i64 e, .int .i64 f, .bool n, .int .u64 xx, .int .u64 yy] 82))
  have HB := hide (balloc (bthen (below1 _ _) hbl) (.cells #[.int .i64 e, .int .i64 f, .bool n, .int .u64 xx, .int .u64 yy] 82))
  have HA : Hid (At5 w1.heap.size (.int .i64 e) (.int .i64 f) (.bool n) (.int .u64 xx) (.int .u64 yy) (w1.alloc (.cells #[.int .i64 e, .int .i64 f, .bool n, .int .u64 xx, .int .u64 yy] 82))) := by unfold Hid At5; simp [go_sem]
  have hz1 : W.heap.size < w1.heap.size := by have := hbl.size; simp at this; omega
  clear hbl HT
  go_wp2_with fail
  refine (known_any e f _).mono ?_
  rintro _ w2 ⟨rfl, hbl⟩
  have HB := hide (bthen (unhide HB) hbl)
  have HA := hide ((unhide HA).below hbl)
  have HR := hide ((unhide HR).below hbl)
  clear hbl
  obtain ⟨a0, a1, a2, a3, a4⟩ := unhide HA
  go_wp2_with fail
  refine (isNan_any n xx yy hs _).mono ?_
  rintro _ w3 ⟨rfl, hbl⟩
  clear a0 a1 a2 a3 a4
  have HB := hide (bthen (unhide HB) hbl)
  have HA := hide ((unhide HA).below hbl)
  have HR := hide ((unhide HR).below hbl)
  clear hbl
  rw [h1, Bool.false_and]
  go_wp2_with fail
  have HB := hide (unhide HB).drew
  have HA := hide ((unhide HA).below ((Below.refl _ _).drew))
  have HR := hide (unhide HR).drew
  refine wp_region_held_drew (S := fun w' => (w'.cell? ⟨w1.heap.size, 0, none⟩ = some (.int .i64 e) ∧ w'.cell? ⟨w1.heap.size, 1, none⟩ = some (.int .i64 f) ∧ w'.cell? ⟨w1.heap.size, 2, none⟩ = some (.bool n) ∧ w'.cell? ⟨w1.heap.size, 3, none⟩ = some (.int .u64 xx) ∧ w'.cell? ⟨w1.heap.size, 4, none⟩ = some (.int .u64 yy)) ∧ Room W.heap.size 4 w') (by kernel_rfl) ?_ (fun hHeld => ?_)
  · (try dsimp only)
    exact ⟨unhide HA, unhide HR⟩
  refine lst0 7 (by kernel_rfl) ?_
  refine tkA 0 20 1 ?_
  refine tkA 1 21 3 ?_
  refine tkA 2 22 7 ?_
  refine tkA 3 23 15 ?_
  refine rdA 4 31 (fun Kk hKk => ?_)
  go_simp
  refine (last_any hs _).mono ?_
  rintro _ w4 ⟨rfl, hbl⟩
  have HB := hide (bthen (unhide HB) hbl)
  have HA := hide ((unhide HA).below hbl)
  have HR := hide ((unhide HR).below hbl)
  clear hbl
  (try go_wp2_with fail)
  refine hKk.out _ _ ?_ (fun hHeld => ?_)
  · (try dsimp only)
    exact ⟨unhide HA, unhide HR⟩
  clear hKk Kk
  (try simp only [List.setIfInBounds_toArray, List.set_cons_zero, List.set_cons_succ])
  refine tkA 5 25 63 ?_
  refine tkA 6 19 127 ?_
  refine wpAnyH_done (by kernel_rfl) ?_ _
  clear hHeld
  obtain ⟨a0, a1, a2, a3, a4⟩ := unhide HA
  obtain ⟨⟨v0, c0⟩, f0⟩ := (unhide HR) 0 (by omega)
  obtain ⟨⟨v1, c1⟩, f1⟩ := (unhide HR) 1 (by omega)
  obtain ⟨⟨v2, c2⟩, f2⟩ := (unhide HR) 2 (by omega)
  obtain ⟨⟨v3, c3⟩, f3⟩ := (unhide HR) 3 (by omega)
  go_wp2_with fail
  exact bodyPost_ret (v := .agg #[.bool n, .int .i64 0, .int .i64 0, .int .u64 0]) (by simp (maxDischargeDepth := 8) [results, Tryz.results15, go_sem, c0, c1, c2, c3]) rfl ⟨rfl, bset4 (unhide HB) _ _ _ _⟩

set_option maxRecDepth 100000 in
set_option maxHeartbeats 4000000 in
theorem open_sub {w e f P Q b : Int} (x xx yy : Int) (n : Bool) (hs : Sz e f P Q b) (W : World)
    (HT : Ct 46 #[.int .i64 w, .int .u64 x] (.agg #[.int .i64 e, .int .i64 f, .bool n, .int .u64 xx, .int .u64 yy])) (hf : (f != 0) = true) (h1 : (xx == Q - 1) = false) (h3 : (xx != 0) = false) (h2 : (yy != 0) = true) :
    Calls Tryz.prog 15 #[.int .i64 w, .int .u64 x] W fun r W' => r = .returned (.agg #[.bool n, .int .i64 1, .int .i64 (1 - b - f), .int .u64 yy]) ∧ Below W.heap.size W W' := by
  go_enter Tryz.func15, Tryz.ntmps15
  go_wp2_with fail
  refine (unhide HT _).mono ?_
  rintro _ w1 ⟨rfl, hbl⟩
  have HR := hide ((room4 hbl).alloc (.cells #[.int .i64 e, .int .i64 f, .bool n, .int .u64 xx, .int .u64 yy] 82))
  have HB := hide (balloc (bthen (below1 _ _) hbl) (.cells #[.int .i64 e, .int .i64 f, .bool n, .int .u64 xx, .int .u64 yy] 82))
  have HA : Hid (At5 w1.heap.size (.int .i64 e) (.int .i64 f) (.bool n) (.int .u64 xx) (.int .u64 yy) (w1.alloc (.cells #[.int .i64 e, .int .i64 f, .bool n, .int .u64 xx, .int .u64 yy] 82))) := by unfold Hid At5; simp [go_sem]
  have hz1 : W.heap.size < w1.heap.size := by have := hbl.size; simp at this; omega
  clear hbl HT
  go_wp2_with fail
  refine (known_any e f _).mono ?_
  rintro _ w2 ⟨rfl, hbl⟩
  have HB := hide (bthen (unhide HB) hbl)
  have HA := hide ((unhide HA).below hbl)
  have HR := hide ((unhide HR).below hbl)
  clear hbl
  obtain ⟨a0, a1, a2, a3, a4⟩ := unhide HA
  go_wp2_with fail
  refine (isNan_any n xx yy hs _).mono ?_
  rintro _ w3 ⟨rfl, hbl⟩
  clear a0 a1 a2 a3 a4
  have HB := hide (bthen (unhide HB) hbl)
  have HA := hide ((unhide HA).below hbl)
  have HR := hide ((unhide HR).below hbl)
  clear hbl
  rw [h1, Bool.false_and]
  go_wp2_with fail
  have HB := hide (unhide HB).drew
  have HA := hide ((unhide HA).below ((Below.refl _ _).drew))
  have HR := hide (unhide HR).drew
  refine wp_region_held_drew (S := fun w' => (w'.cell? ⟨w1.heap.size, 0, none⟩ = some (.int .i64 e) ∧ w'.cell? ⟨w1.heap.size, 1, none⟩ = some (.int .i64 f) ∧ w'.cell? ⟨w1.heap.size, 2, none⟩ = some (.bool n) ∧ w'.cell? ⟨w1.heap.size, 3, none⟩ = some (.int .u64 xx) ∧ w'.cell? ⟨w1.heap.size, 4, none⟩ = some (.int .u64 yy)) ∧ Room W.heap.size 4 w') (by kernel_rfl) ?_ (fun hHeld => ?_)
  · (try dsimp only)
    exact ⟨unhide HA, unhide HR⟩
  refine lst0 7 (by kernel_rfl) ?_
  refine tkA 0 20 1 ?_
  refine tkA 1 21 3 ?_
  refine tkA 2 22 7 ?_
  refine tkA 3 23 15 ?_
  refine rdA 4 31 (fun Kk hKk => ?_)
  go_simp
  refine (last_any hs _).mono ?_
  rintro _ w4 ⟨rfl, hbl⟩
  have HB := hide (bthen (unhide HB) hbl)
  have HA := hide ((unhide HA).below hbl)
  have HR := hide ((unhide HR).below hbl)
  clear hbl
  (try go_wp2_with fail)
  refine hKk.out _ _ ?_ (fun hHeld => ?_)
  · (try dsimp only)
    exact ⟨unhide HA, unhide HR⟩
  clear hKk Kk
  (try simp only [List.setIfInBounds_toArray, List.set_cons_zero, List.set_cons_succ])
  refine tkA 5 25 63 ?_
  refine tkA 6 19 127 ?_
  refine wpAnyH_done (by kernel_rfl) ?_ _
  clear hHeld
  obtain ⟨a0, a1, a2, a3, a4⟩ := unhide HA
  go_wp2_with fail
  clear a0 a1 a2 a3 a4
  have HB := hide (unhide HB).drew
  have HA := hide ((unhide HA).below ((Below.refl _ _).drew))
  have HR := hide (unhide HR).drew
  refine wp_region_held_drew (S := fun w' => (w'.cell? ⟨w1.heap.size, 0, none⟩ = some (.int .i64 e) ∧ w'.cell? ⟨w1.heap.size, 1, none⟩ = some (.int .i64 f) ∧ w'.cell? ⟨w1.heap.size, 2, none⟩ = some (.bool n) ∧ w'.cell? ⟨w1.heap.size, 3, none⟩ = some (.int .u64 xx) ∧ w'.cell? ⟨w1.heap.size, 4, none⟩ = some (.int .u64 yy)) ∧ Room W.heap.size 4 w') (by kernel_rfl) ?_ (fun hHeld => ?_)
  · (try dsimp only)
    exact ⟨unhide HA, unhide HR⟩
  refine lst0 9 (by kernel_rfl) ?_
  refine tkA 0 52 1 ?_
  refine tkA 1 53 3 ?_
  refine tkA 2 54 7 ?_
  refine tkA 3 55 15 ?_
  refine tkA 5 57 47 ?_
  refine tkA 6 58 111 ?_
  refine rdA 4 127 (fun Kk hKk => ?_)
  go_simp
  refine (least_any hs _).mono ?_
  rintro _ w5 ⟨rfl, hbl⟩
  have HB := hide (bthen (unhide HB) hbl)
  have HA := hide ((unhide HA).below hbl)
  have HR := hide ((unhide HR).below hbl)
  clear hbl
  (try go_wp2_with fail)
  refine hKk.out _ _ ?_ (fun hHeld => ?_)
  · (try dsimp only)
    exact ⟨unhide HA, unhide HR⟩
  clear hKk Kk
  (try simp only [List.setIfInBounds_toArray, List.set_cons_zero, List.set_cons_succ])
  refine tkA 7 59 255 ?_
  refine rdA 8 511 (fun Kk hKk => ?_)
  obtain ⟨⟨v0, c0⟩, f0⟩ := hHeld.2 0 (by omega)
  obtain ⟨⟨v1, c1⟩, f1⟩ := hHeld.2 1 (by omega)
  obtain ⟨⟨v2, c2⟩, f2⟩ := hHeld.2 2 (by omega)
  obtain ⟨⟨v3, c3⟩, f3⟩ := hHeld.2 3 (by omega)
  go_simp
  refine hKk.out _ _ ?_ (fun hHeld => ?_)
  · (try dsimp only)
    exact ⟨At5.set (At5.set (At5.set (At5.set (unhide HA) (by omega) _ _) (by omega) _ _) (by omega) _ _) (by omega) _ _, (((hHeld.2.set _ _).set _ _).set _ _).set _ _⟩
  clear hKk Kk
  (try simp only [List.setIfInBounds_toArray, List.set_cons_zero, List.set_cons_succ])
  refine wpAnyH_done (by kernel_rfl) ?_ _
  clear hHeld
  go_wp2_with fail
  exact bodyPost_ret (v := .agg #[.bool n, .int .i64 1, .int .i64 (1 - b - f), .int .u64 yy]) (by simp (maxDischargeDepth := 8) [results, Tryz.results15, go_sem, c0, c1, c2, c3]) rfl ⟨rfl, bset4 (unhide HB) _ _ _ _⟩

set_option maxRecDepth 100000 in
set_option maxHeartbeats 4000000 in
theorem open_nor {w e f P Q b : Int} (x xx yy : Int) (n : Bool) (hs : Sz e f P Q b) (W : World)
    (HT : Ct 46 #[.int .i64 w, .int .u64 x] (.agg #[.int .i64 e, .int .i64 f, .bool n, .int .u64 xx, .int .u64 yy])) (hf : (f != 0) = true) (h1 : (xx == Q - 1) = false) (h3 : (xx != 0) = true) (k1 : IntKind.i64.wrap xx = xx) (k2 : bits .or .u64 P yy = P + yy) (x0 : -5000 ≤ xx) (x1 : xx ≤ 5000) :
    Calls Tryz.prog 15 #[.int .i64 w, .int .u64 x] W fun r W' => r = .returned (.agg #[.bool n, .int .i64 1, .int .i64 (xx - b - f), .int .u64 (P + yy)]) ∧ Below W.heap.size W W' := by
  go_enter Tryz.func15, Tryz.ntmps15
  go_wp2_with fail
  refine (unhide HT _).mono ?_
  rintro _ w1 ⟨rfl, hbl⟩
  have HR := hide ((room4 hbl).alloc (.cells #[.int .i64 e, .int .i64 f, .bool n, .int .u64 xx, .int .u64 yy] 82))
  have HB := hide (balloc (bthen (below1 _ _) hbl) (.cells #[.int .i64 e, .int .i64 f, .bool n, .int .u64 xx, .int .u64 yy] 82))
  have HA : Hid (At5 w1.heap.size (.int .i64 e) (.int .i64 f) (.bool n) (.int .u64 xx) (.int .u64 yy) (w1.alloc (.cells #[.int .i64 e, .int .i64 f, .bool n, .int .u64 xx, .int .u64 yy] 82))) := by unfold Hid At5; simp [go_sem]
  have hz1 : W.heap.size < w1.heap.size := by have := hbl.size; simp at this; omega
  clear hbl HT
  go_wp2_with fail
  refine (known_any e f _).mono ?_
  rintro _ w2 ⟨rfl, hbl⟩
  have HB := hide (bthen (unhide HB) hbl)
  have HA := hide ((unhide HA).below hbl)
  have HR := hide ((unhide HR).below hbl)
  clear hbl
  obtain ⟨a0, a1, a2, a3, a4⟩ := unhide HA
  go_wp2_with fail
  refine (isNan_any n xx yy hs _).mono ?_
  rintro _ w3 ⟨rfl, hbl⟩
  clear a0 a1 a2 a3 a4
  have HB := hide (bthen (unhide HB) hbl)
  have HA := hide ((unhide HA).below hbl)
  have HR := hide ((unhide HR).below hbl)
  clear hbl
  rw [h1, Bool.false_and]
  go_wp2_with fail
  have HB := hide (unhide HB).drew
  have HA := hide ((unhide HA).below ((Below.refl _ _).drew))
  have HR := hide (unhide HR).drew
  refine wp_region_held_drew (S := fun w' => (w'.cell? ⟨w1.heap.size, 0, none⟩ = some (.int .i64 e) ∧ w'.cell? ⟨w1.heap.size, 1, none⟩ = some (.int .i64 f) ∧ w'.cell? ⟨w1.heap.size, 2, none⟩ = some (.bool n) ∧ w'.cell? ⟨w1.heap.size, 3, none⟩ = some (.int .u64 xx) ∧ w'.cell? ⟨w1.heap.size, 4, none⟩ = some (.int .u64 yy)) ∧ Room W.heap.size 4 w') (by kernel_rfl) ?_ (fun hHeld => ?_)
  · (try dsimp only)
    exact ⟨unhide HA, unhide HR⟩
  refine lst0 7 (by kernel_rfl) ?_
  refine tkA 0 20 1 ?_
  refine tkA 1 21 3 ?_
  refine tkA 2 22 7 ?_
  refine tkA 3 23 15 ?_
  refine rdA 4 31 (fun Kk hKk => ?_)
  go_simp
  refine (last_any hs _).mono ?_
  rintro _ w4 ⟨rfl, hbl⟩
  have HB := hide (bthen (unhide HB) hbl)
  have HA := hide ((unhide HA).below hbl)
  have HR := hide ((unhide HR).below hbl)
  clear hbl
  (try go_wp2_with fail)
  refine hKk.out _ _ ?_ (fun hHeld => ?_)
  · (try dsimp only)
    exact ⟨unhide HA, unhide HR⟩
  clear hKk Kk
  (try simp only [List.setIfInBounds_toArray, List.set_cons_zero, List.set_cons_succ])
  refine tkA 5 25 63 ?_
  refine tkA 6 19 127 ?_
  refine wpAnyH_done (by kernel_rfl) ?_ _
  clear hHeld
  obtain ⟨a0, a1, a2, a3, a4⟩ := unhide HA
  go_wp2_with fail
  clear a0 a1 a2 a3 a4
  have HB := hide (unhide HB).drew
  have HA := hide ((unhide HA).below ((Below.refl _ _).drew))
  have HR := hide (unhide HR).drew
  refine wp_region_held_drew (S := fun w' => (w'.cell? ⟨w1.heap.size, 0, none⟩ = some (.int .i64 e) ∧ w'.cell? ⟨w1.heap.size, 1, none⟩ = some (.int .i64 f) ∧ w'.cell? ⟨w1.heap.size, 2, none⟩ = some (.bool n) ∧ w'.cell? ⟨w1.heap.size, 3, none⟩ = some (.int .u64 xx) ∧ w'.cell? ⟨w1.heap.size, 4, none⟩ = some (.int .u64 yy)) ∧ Room W.heap.size 4 w') (by kernel_rfl) ?_ (fun hHeld => ?_)
  · (try dsimp only)
    exact ⟨unhide HA, unhide HR⟩
  refine lst0 16 (by kernel_rfl) ?_
  refine tkA 0 33 1 ?_
  refine tkA 1 34 3 ?_
  refine tkA 2 35 7 ?_
  refine tkA 3 36 15 ?_
  refine tkA 4 37 31 ?_
  refine tkA 5 38 63 ?_
  refine tkA 6 39 127 ?_
  refine tkA 8 41 383 ?_
  refine tkA 9 42 895 ?_
  refine tkA 11 44 2943 ?_
  refine tkA 12 45 7039 ?_
  refine rdA 7 7167 (fun Kk hKk => ?_)
  go_simp
  refine (power_any xx hs _ x0 x1).mono ?_
  rintro _ w5 ⟨rfl, hbl⟩
  have HB := hide (bthen (unhide HB) hbl)
  have HA := hide ((unhide HA).below hbl)
  have HR := hide ((unhide HR).below hbl)
  clear hbl
  (try go_wp2_with fail)
  refine hKk.out _ _ ?_ (fun hHeld => ?_)
  · (try dsimp only)
    exact ⟨unhide HA, unhide HR⟩
  clear hKk Kk
  (try simp only [List.setIfInBounds_toArray, List.set_cons_zero, List.set_cons_succ])
  refine rdA 10 8191 (fun Kk hKk => ?_)
  go_simp
  refine (one_any hs _).mono ?_
  rintro _ w6 ⟨rfl, hbl⟩
  have HB := hide (bthen (unhide HB) hbl)
  have HA := hide ((unhide HA).below hbl)
  have HR := hide ((unhide HR).below hbl)
  clear hbl
  (try go_wp2_with fail)
  refine hKk.out _ _ ?_ (fun hHeld => ?_)
  · (try dsimp only)
    exact ⟨unhide HA, unhide HR⟩
  clear hKk Kk
  (try simp only [List.setIfInBounds_toArray, List.set_cons_zero, List.set_cons_succ])
  refine tkA 13 46 16383 ?_
  refine tkA 14 47 32767 ?_
  refine rdA 15 65535 (fun Kk hKk => ?_)
  obtain ⟨⟨v0, c0⟩, f0⟩ := hHeld.2 0 (by omega)
  obtain ⟨⟨v1, c1⟩, f1⟩ := hHeld.2 1 (by omega)
  obtain ⟨⟨v2, c2⟩, f2⟩ := hHeld.2 2 (by omega)
  obtain ⟨⟨v3, c3⟩, f3⟩ := hHeld.2 3 (by omega)
  go_simp
  refine hKk.out _ _ ?_ (fun hHeld => ?_)
  · (try dsimp only)
    exact ⟨At5.set (At5.set (At5.set (At5.set (unhide HA) (by omega) _ _) (by omega) _ _) (by omega) _ _) (by omega) _ _, (((hHeld.2.set _ _).set _ _).set _ _).set _ _⟩
  clear hKk Kk
  (try simp only [List.setIfInBounds_toArray, List.set_cons_zero, List.set_cons_succ])
  refine wpAnyH_done (by kernel_rfl) ?_ _
  clear hHeld
  go_wp2_with fail
  exact bodyPost_ret (v := .agg #[.bool n, .int .i64 1, .int .i64 (xx - b - f), .int .u64 (P + yy)]) (by simp (maxDischargeDepth := 8) [results, Tryz.results15, go_sem, c0, c1, c2, c3]) rfl ⟨rfl, bset4 (unhide HB) _ _ _ _⟩

/-- What a float of these fields is taken apart into. -/
def Opened (f P Q b : Int) (n : Bool) (x y : Int) (N : Bool) (K X S : Int) : Prop :=
  (f = 0 ∧ N = false ∧ K = 0 ∧ X = 0 ∧ S = 0) ∨
  (f ≠ 0 ∧ x = Q - 1 ∧ y ≠ 0 ∧ N = false ∧ K = 3 ∧ X = 0 ∧ S = 0) ∨
  (f ≠ 0 ∧ x = Q - 1 ∧ y = 0 ∧ N = n ∧ K = 2 ∧ X = 0 ∧ S = 0) ∨
  (f ≠ 0 ∧ x ≠ Q - 1 ∧ x ≠ 0 ∧ N = n ∧ K = 1 ∧ X = x - b - f ∧ S = P + y) ∨
  (f ≠ 0 ∧ x ≠ Q - 1 ∧ x = 0 ∧ y ≠ 0 ∧ N = n ∧ K = 1 ∧ X = 1 - b - f ∧ S = y) ∨
  (f ≠ 0 ∧ x ≠ Q - 1 ∧ x = 0 ∧ y = 0 ∧ N = n ∧ K = 0 ∧ X = 0 ∧ S = 0)
theorem opened_ex (f P Q b : Int) (n : Bool) (x y : Int) : ∃ N K X S, Opened f P Q b n x y N K X S := by
  unfold Opened
  by_cases h0 : f = 0
  · exact ⟨_, _, _, _, Or.inl ⟨h0, rfl, rfl, rfl, rfl⟩⟩
  by_cases h1 : x = Q - 1
  · by_cases h2 : y = 0
    · exact ⟨_, _, _, _, Or.inr (Or.inr (Or.inl ⟨h0, h1, h2, rfl, rfl, rfl, rfl⟩))⟩
    · exact ⟨_, _, _, _, Or.inr (Or.inl ⟨h0, h1, h2, rfl, rfl, rfl, rfl⟩)⟩
  by_cases h2 : x = 0
  · by_cases h3 : y = 0
    · exact ⟨_, _, _, _, Or.inr (Or.inr (Or.inr (Or.inr (Or.inr ⟨h0, h1, h2, h3, rfl, rfl, rfl, rfl⟩))))⟩
    · exact ⟨_, _, _, _, Or.inr (Or.inr (Or.inr (Or.inr (Or.inl ⟨h0, h1, h2, h3, rfl, rfl, rfl, rfl⟩))))⟩
  · exact ⟨_, _, _, _, Or.inr (Or.inr (Or.inr (Or.inl ⟨h0, h1, h2, rfl, rfl, rfl, rfl⟩)))⟩

theorem ne_t {a b : Int} (h : a ≠ b) : (a != b) = true := by simp [h]
theorem ne_f {a b : Int} (h : a = b) : (a != b) = false := by simp [h]
theorem eq_t {a b : Int} (h : a = b) : (a == b) = true := by simp [h]
theorem eq_f {a b : Int} (h : a ≠ b) : (a == b) = false := by simp [h]

theorem open_any {w e f P Q b : Int} (x : Int) {N : Bool} {K X S : Int} (h : Wd w e f P Q b) (W : World) (h0 : 0 ≤ x) (h1 : x < 18446744073709551616)
    (ho : Opened f P Q b (sg P Q x) (x / P % Q) (x % P) N K X S) :
    Calls Tryz.prog 15 #[.int .i64 w, .int .u64 x] W fun r W' => r = .returned (.agg #[.bool N, .int .i64 K, .int .i64 X, .int .u64 S]) ∧ Below W.heap.size W W' := by
  have HT := hide (fun W => take_any x h W h0 h1)
  obtain ⟨p1, p2, q1, q2⟩ := h.sz.pos
  obtain ⟨u, v⟩ := exp_in (x / P) q1
  obtain ⟨u', v'⟩ := exp_in x p1
  rcases ho with ⟨a, rfl, rfl, rfl, rfl⟩ | ⟨a, c, d, rfl, rfl, rfl, rfl⟩ | ⟨a, c, d, rfl, rfl, rfl, rfl⟩ | ⟨a, c, d, rfl, rfl, rfl, rfl⟩ | ⟨a, c, d, g, rfl, rfl, rfl, rfl⟩ | ⟨a, c, d, g, rfl, rfl, rfl, rfl⟩
  · exact open_no x _ _ _ h.sz W HT (ne_f a)
  · exact open_nan x _ _ _ h.sz W HT (ne_t a) (eq_t c) (ne_t d)
  · exact open_inf x _ _ _ h.sz W HT (ne_t a) (eq_t c) (ne_f d)
  · refine open_nor x _ _ _ h.sz W HT (ne_t a) (eq_f c) (ne_t d) (i64_id (by omega) (by omega)) ?_ (by omega) (by omega)
    rcases h.sz with ⟨_, rfl, rfl, rfl, _⟩ | ⟨_, rfl, rfl, rfl, _⟩ | ⟨_, rfl, rfl, rfl, _⟩
    · exact or_sum 23 _ _ (by omega) (by omega) (by decide) (by omega) (by omega) (by omega)
    · exact or_sum 52 _ _ (by omega) (by omega) (by decide) (by omega) (by omega) (by omega)
    · exact absurd rfl a
  · exact open_sub x _ _ _ h.sz W HT (ne_t a) (eq_f c) (ne_f d) (ne_t g)
  · exact open_zer x _ _ _ h.sz W HT (ne_t a) (eq_f c) (ne_f d) (ne_f g)

def At4 (b : Nat) (x y z u : Value) (w : World) : Prop := w.cell? ⟨b, 0, none⟩ = some x ∧ w.cell? ⟨b, 1, none⟩ = some y ∧ w.cell? ⟨b, 2, none⟩ = some z ∧ w.cell? ⟨b, 3, none⟩ = some u
theorem At4.below {b : Nat} {x y z u : Value} {w w' : World} (h : At4 b x y z u w) (hb : Below w.heap.size w w') : At4 b x y z u w' :=
  have hz := lt_of_cell h.1
  ⟨keep1 hb hz h.1, keep1 hb hz h.2.1, keep1 hb hz h.2.2.1, keep1 hb hz h.2.2.2⟩
theorem at4_new (w : World) (x y z u : Value) (t : TypeId) : At4 w.heap.size x y z u (w.alloc (.cells #[x, y, z, u] t)) := by unfold At4; simp [go_sem]

theorem kd_in {w e f P Q b : Int} (h : Kd w e f P Q b) : ((w != 32) = false) ∨ ((w != 32) = true ∧ (w != 64) = false) := by
  rcases h with h | h
  · exact Or.inl (ne_f h.1)
  · exact Or.inr ⟨ne_t (by omega), ne_f h.1⟩


end Go.Proofs.YtpbgpdmffejdgaaGreatDoor
