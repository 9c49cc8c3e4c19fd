/- Contracts of package round's parts: isNought, top, halves. -/
import Derived.Test.YtpbgpdmffejdgaaGreatDoorCloseW
import Derived.Test.YtpbgpdmffejdgaaGreatDoorNear
import Derived.Test.YtpbgpdmffejdgaaGreatDoorWLensB
import Derived.Test.YtpbgpdmffejdgaaGreatDoorTk
namespace Go.Proofs.YtpbgpdmffejdgaaGreatDoor
open Go.RowKit

theorem at5_new (w : World) (x y z u v : Value) (t : TypeId) : At5 w.heap.size x y z u v (w.alloc (.cells #[x, y, z, u, v] t)) := by unfold At5; simp [go_sem]

set_option maxRecDepth 100000 in
set_option maxHeartbeats 1000000 in
theorem isNought_h {h l E : Int} {n m : Bool} (W : World) (h1 : (h == 0) = false) :
    Calls Tryz.prog 265 #[.agg #[.bool n, .int .u64 h, .int .u64 l, .int .i64 E, .bool m]] W fun r W' => r = .returned (.bool false) ∧ Below W.heap.size W W' := by
  go_enter Tryz.func265, Tryz.ntmps265
  go_wp2_with fail
  go_ret
  exact ⟨rfl, below1 _ _⟩
set_option maxRecDepth 100000 in
set_option maxHeartbeats 1000000 in
theorem isNought_l {h l E : Int} {n m : Bool} (W : World) (h1 : (h == 0) = true) (h2 : (l == 0) = false) :
    Calls Tryz.prog 265 #[.agg #[.bool n, .int .u64 h, .int .u64 l, .int .i64 E, .bool m]] W fun r W' => r = .returned (.bool false) ∧ Below W.heap.size W W' := by
  go_enter Tryz.func265, Tryz.ntmps265
  go_wp2_with fail
  go_ret
  exact ⟨rfl, below1 _ _⟩
set_option maxRecDepth 100000 in
set_option maxHeartbeats 1000000 in
theorem isNought_m {h l E : Int} {n : Bool} (W : World) (h1 : (h == 0) = true) (h2 : (l == 0) = true) :
    Calls Tryz.prog 265 #[.agg #[.bool n, .int .u64 h, .int .u64 l, .int .i64 E, .bool true]] W fun r W' => r = .returned (.bool false) ∧ Below W.heap.size W W' := by
  go_enter Tryz.func265, Tryz.ntmps265
  go_wp2_with fail
  go_ret
  exact ⟨rfl, below1 _ _⟩
set_option maxRecDepth 100000 in
set_option maxHeartbeats 1000000 in
theorem isNought_y {h l E : Int} {n : Bool} (W : World) (h1 : (h == 0) = true) (h2 : (l == 0) = true) :
    Calls Tryz.prog 265 #[.agg #[.bool n, .int .u64 h, .int .u64 l, .int .i64 E, .bool false]] W fun r W' => r = .returned (.bool true) ∧ Below W.heap.size W W' := by
  go_enter Tryz.func265, Tryz.ntmps265
  go_wp2_with fail
  go_ret
  exact ⟨rfl, below1 _ _⟩
/-- Is a number nought? -/
theorem isNought_any (v : Nat) (E : Int) (n m : Bool) (Wd : World) :
    Calls Tryz.prog 265 #[.agg #[.bool n, .int .u64 (W.hi v), .int .u64 (W.lo v), .int .i64 E, .bool m]] Wd fun r W' => r = .returned (.bool (decide (v = 0) && !m)) ∧ Below Wd.heap.size Wd W' := by
  by_cases h1 : W.hi v = 0
  · by_cases h2 : W.lo v = 0
    · have hv : v = 0 := by unfold W.hi at h1; unfold W.lo at h2; omega
      cases m
      · rw [decide_eq_true hv]; exact isNought_y Wd (eq_t h1) (eq_t h2)
      · rw [decide_eq_true hv]; exact isNought_m Wd (eq_t h1) (eq_t h2)
    · have hv : ¬ v = 0 := fun h0 => h2 (by rw [h0]; rfl)
      rw [decide_eq_false hv]; exact isNought_l Wd (eq_t h1) (eq_f h2)
  · have hv : ¬ v = 0 := fun h0 => h1 (by rw [h0]; rfl)
    rw [decide_eq_false hv]; exact isNought_h Wd (eq_f h1)

set_option maxRecDepth 100000 in
set_option maxHeartbeats 1000000 in
theorem top_l {h l E B : Int} {n m : Bool} (W : World) (HL : Ct 233 #[.agg #[.int .u64 h, .int .u64 l]] (.int .i64 B))
    (k1 : IntKind.i64.wrap (E + B) = E + B) (k2 : IntKind.i64.wrap (E + B - 1) = E + B - 1) :
    Calls Tryz.prog 266 #[.agg #[.bool n, .int .u64 h, .int .u64 l, .int .i64 E, .bool m]] W fun r W' => r = .returned (.int .i64 (E + B - 1)) ∧ Below W.heap.size W W' := by
  go_enter Tryz.func266, Tryz.ntmps266
  go_wp2_with fail
  refine wp_region_held_drew (S := fun w' => w'.cell? ⟨W.heap.size, 0, none⟩ = some (.bool n) ∧ w'.cell? ⟨W.heap.size, 1, none⟩ = some (.int .u64 h) ∧ w'.cell? ⟨W.heap.size, 2, none⟩ = some (.int .u64 l) ∧ w'.cell? ⟨W.heap.size, 3, none⟩ = some (.int .i64 E) ∧ w'.cell? ⟨W.heap.size, 4, none⟩ = some (.bool m)) (by kernel_rfl) ?_ (fun hHeld => ?_)
  · (try dsimp only)
    simp [go_sem]
  refine lst0 8 (by kernel_rfl) ?_
  refine tkA 0 3 1 ?_
  refine tkA 1 4 3 ?_
  refine tkA 2 5 7 ?_
  refine tkA 3 6 15 ?_
  refine rdA 4 31 (fun Kk hKk => ?_)
  go_simp
  refine (unhide HL _).mono ?_
  rintro _ w1 ⟨rfl, hbl⟩
  have HB := hide (bthen (below1 _ _).drew hbl)
  (try go_wp2_with fail)
  refine hKk.out _ _ ?_ (fun hHeld => ?_)
  · (try dsimp only)
    exact At5.below hHeld hbl
  clear hKk Kk
  (try simp only [List.setIfInBounds_toArray, List.set_cons_zero, List.set_cons_succ])
  refine tkA 5 8 63 ?_
  refine tkA 6 9 127 ?_
  refine tkA 7 2 255 ?_
  refine wpAnyH_done (by kernel_rfl) ?_ _
  go_wp2
  go_ret
  exact ⟨rfl, unhide HB⟩

set_option maxRecDepth 100000 in
set_option maxHeartbeats 1000000 in
theorem halves_gt {h l E U h' l' : Int} {n m : Bool} (W : World) (HR : Ct 262 #[.agg #[.int .u64 h, .int .u64 l], .int .i64 (U - E - 1)] (.tuple #[.agg #[.int .u64 h', .int .u64 l'], .bool true]))
    (g : E < U) (k1 : IntKind.i64.wrap (U - E) = U - E) (k2 : IntKind.i64.wrap (U - E - 1) = U - E - 1) :
    Calls Tryz.prog 267 #[.agg #[.bool n, .int .u64 h, .int .u64 l, .int .i64 E, .bool m], .int .i64 U] W fun r W' => r = .returned (.tuple #[.int .u64 l', .bool true]) ∧ Below W.heap.size W W' := by
  go_enter Tryz.func267, Tryz.ntmps267
  go_wp2_with fail
  refine (unhide HR _).mono ?_
  rintro _ w1 ⟨rfl, hb⟩
  have HA := hide (((at5_new W _ _ _ _ _ 197).below hb).below ((below1 _ (.cells #[.int .u64 h', .int .u64 l'] 135)).drew))
  have HB := hide ((balloc (bthen (below1 _ _) hb) (.cells #[.int .u64 h', .int .u64 l'] 135)).drew)
  have HZ : Hid (W.heap.size < w1.heap.size) := by have := hb.size; simp at this; unfold Hid; omega
  clear hb
  obtain ⟨a0, a1, a2, a3, a4⟩ := unhide HA
  clear HA
  go_wp2_with fail
  refine wp_region_held_drew (S := fun w' => (w'.cell? ⟨W.heap.size, 0, none⟩ = some (.bool n) ∧ w'.cell? ⟨W.heap.size, 1, none⟩ = some (.int .u64 h) ∧ w'.cell? ⟨W.heap.size, 2, none⟩ = some (.int .u64 l) ∧ w'.cell? ⟨W.heap.size, 3, none⟩ = some (.int .i64 E) ∧ w'.cell? ⟨W.heap.size, 4, none⟩ = some (.bool m)) ∧ (w'.cell? ⟨w1.heap.size, 0, none⟩ = some (.int .u64 h') ∧ w'.cell? ⟨w1.heap.size, 1, none⟩ = some (.int .u64 l'))) (by kernel_rfl) ?_ (fun hHeld => ?_)
  · (try dsimp only)
    exact ⟨⟨a0, a1, a2, a3, a4⟩, by simp [go_sem], by simp [go_sem]⟩
  refine lst0 9 (by kernel_rfl) ?_
  refine tkA 0 24 1 ?_
  refine tkA 1 25 3 ?_
  refine tkA 2 26 7 ?_
  refine tkA 3 27 15 ?_
  refine tkU 4 28 31 ?_
  refine tkU 5 29 63 ?_
  refine tkA 6 30 127 ?_
  refine tkA 7 4 255 ?_
  refine tkA 8 5 511 ?_
  refine wpAnyH_done (by kernel_rfl) ?_ _
  go_wp2
  exact bodyPost_ret (v := .tuple #[.int .u64 l', .bool true]) (by simp [results, Tryz.results267, go_sem]) rfl ⟨rfl, unhide HB⟩

set_option maxRecDepth 100000 in
set_option maxHeartbeats 1000000 in
theorem halves_gf {h l E U h' l' : Int} {n m : Bool} (W : World) (HR : Ct 262 #[.agg #[.int .u64 h, .int .u64 l], .int .i64 (U - E - 1)] (.tuple #[.agg #[.int .u64 h', .int .u64 l'], .bool false]))
    (g : E < U) (k1 : IntKind.i64.wrap (U - E) = U - E) (k2 : IntKind.i64.wrap (U - E - 1) = U - E - 1) :
    Calls Tryz.prog 267 #[.agg #[.bool n, .int .u64 h, .int .u64 l, .int .i64 E, .bool m], .int .i64 U] W fun r W' => r = .returned (.tuple #[.int .u64 l', .bool m]) ∧ Below W.heap.size W W' := by
  go_enter Tryz.func267, Tryz.ntmps267
  go_wp2_with fail
  refine (unhide HR _).mono ?_
  rintro _ w1 ⟨rfl, hb⟩
  have HA := hide (((at5_new W _ _ _ _ _ 197).below hb).below ((below1 _ (.cells #[.int .u64 h', .int .u64 l'] 135)).drew))
  have HB := hide ((balloc (bthen (below1 _ _) hb) (.cells #[.int .u64 h', .int .u64 l'] 135)).drew)
  have HZ : Hid (W.heap.size < w1.heap.size) := by have := hb.size; simp at this; unfold Hid; omega
  clear hb
  obtain ⟨a0, a1, a2, a3, a4⟩ := unhide HA
  clear HA
  go_wp2_with fail
  refine wp_region_held_drew (S := fun w' => (w'.cell? ⟨W.heap.size, 0, none⟩ = some (.bool n) ∧ w'.cell? ⟨W.heap.size, 1, none⟩ = some (.int .u64 h) ∧ w'.cell? ⟨W.heap.size, 2, none⟩ = some (.int .u64 l) ∧ w'.cell? ⟨W.heap.size, 3, none⟩ = some (.int .i64 E) ∧ w'.cell? ⟨W.heap.size, 4, none⟩ = some (.bool m)) ∧ (w'.cell? ⟨w1.heap.size, 0, none⟩ = some (.int .u64 h') ∧ w'.cell? ⟨w1.heap.size, 1, none⟩ = some (.int .u64 l'))) (by kernel_rfl) ?_ (fun hHeld => ?_)
  · (try dsimp only)
    exact ⟨⟨a0, a1, a2, a3, a4⟩, by simp [go_sem], by simp [go_sem]⟩
  refine lst0 9 (by kernel_rfl) ?_
  refine tkA 0 24 1 ?_
  refine tkA 1 25 3 ?_
  refine tkA 2 26 7 ?_
  refine tkA 3 27 15 ?_
  refine tkA 4 28 31 ?_
  refine tkA 5 29 63 ?_
  refine tkA 6 30 127 ?_
  refine tkA 7 4 255 ?_
  refine tkA 8 5 511 ?_
  refine wpAnyH_done (by kernel_rfl) ?_ _
  go_wp2
  exact bodyPost_ret (v := .tuple #[.int .u64 l', .bool m]) (by simp [results, Tryz.results267, go_sem]) rfl ⟨rfl, unhide HB⟩

set_option maxRecDepth 100000 in
set_option maxHeartbeats 1000000 in
theorem halves_lt {h l E U h1 l1 h2 l2 : Int} {n : Bool} (W : World) (H1 : Ct 234 #[.agg #[.int .u64 h, .int .u64 l], .int .i64 1] (.agg #[.int .u64 h1, .int .u64 l1]))
    (H2 : Ct 234 #[.agg #[.int .u64 h1, .int .u64 (l1 + 1)], .int .i64 (E - U)] (.agg #[.int .u64 h2, .int .u64 l2]))
    (g : ¬ E < U) (k1 : IntKind.i64.wrap (E - U) = E - U) (ko : bits .or .u64 l1 1 = l1 + 1) :
    Calls Tryz.prog 267 #[.agg #[.bool n, .int .u64 h, .int .u64 l, .int .i64 E, .bool true], .int .i64 U] W fun r W' => r = .returned (.tuple #[.int .u64 l2, .bool false]) ∧ Below W.heap.size W W' := by
  go_enter Tryz.func267, Tryz.ntmps267
  go_wp2_with fail
  refine (unhide H1 _).mono ?_
  rintro _ w1 ⟨rfl, hb⟩
  have HA := hide ((at5_new W _ _ _ _ _ 197).below hb)
  have HB := hide (balloc (bthen (below1 _ _) hb) (.cells #[.int .u64 h1, .int .u64 (l1 + 1)] 135))
  have hz : W.heap.size < w1.heap.size := by have := hb.size; simp at this; omega
  have hne : ¬ W.heap.size = w1.heap.size := by omega
  clear hb
  obtain ⟨a0, a1, a2, a3, a4⟩ := unhide HA
  clear HA
  go_wp2_with fail
  refine (unhide H2 _).mono ?_
  rintro _ w2 ⟨rfl, hb2⟩
  have HB := hide (bthen (unhide HB) hb2)
  clear hb2
  have ff : ∀ w : World, (Instr.field 135 (.agg #[.int .u64 h2, .int .u64 l2]) 1).run Tryz.prog w = .ok (.int .u64 l2) w := fun _ => by kernel_rfl
  go_wp2_with fail
  go_ret2
  exact ⟨rfl, unhide HB⟩
set_option maxRecDepth 100000 in
set_option maxHeartbeats 1000000 in
theorem halves_lf {h l E U h1 l1 h2 l2 : Int} {n : Bool} (W : World) (H1 : Ct 234 #[.agg #[.int .u64 h, .int .u64 l], .int .i64 1] (.agg #[.int .u64 h1, .int .u64 l1]))
    (H2 : Ct 234 #[.agg #[.int .u64 h1, .int .u64 l1], .int .i64 (E - U)] (.agg #[.int .u64 h2, .int .u64 l2]))
    (g : ¬ E < U) (k1 : IntKind.i64.wrap (E - U) = E - U) :
    Calls Tryz.prog 267 #[.agg #[.bool n, .int .u64 h, .int .u64 l, .int .i64 E, .bool false], .int .i64 U] W fun r W' => r = .returned (.tuple #[.int .u64 l2, .bool false]) ∧ Below W.heap.size W W' := by
  go_enter Tryz.func267, Tryz.ntmps267
  go_wp2_with fail
  refine (unhide H1 _).mono ?_
  rintro _ w1 ⟨rfl, hb⟩
  have HA := hide ((at5_new W _ _ _ _ _ 197).below hb)
  have HB := hide (balloc (bthen (below1 _ _) hb) (.cells #[.int .u64 h1, .int .u64 l1] 135))
  have hz : W.heap.size < w1.heap.size := by have := hb.size; simp at this; omega
  have hne : ¬ W.heap.size = w1.heap.size := by omega
  clear hb
  obtain ⟨a0, a1, a2, a3, a4⟩ := unhide HA
  clear HA
  go_wp2_with fail
  refine (unhide H2 _).mono ?_
  rintro _ w2 ⟨rfl, hb2⟩
  have HB := hide (bthen (unhide HB) hb2)
  clear hb2
  have ff : ∀ w : World, (Instr.field 135 (.agg #[.int .u64 h2, .int .u64 l2]) 1).run Tryz.prog w = .ok (.int .u64 l2) w := fun _ => by kernel_rfl
  go_wp2_with fail
  go_ret2
  exact ⟨rfl, unhide HB⟩

end Go.Proofs.YtpbgpdmffejdgaaGreatDoor
